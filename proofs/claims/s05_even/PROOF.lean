import PyProof.Rows.All
import OpenK.KLine
import OpenK.KOwn
import KE.KNest
import KE.KTup
import KE.KItem
import KE.KTurns
import KE.KTryMore
import PyProof.EqAt
import PyProof.EqKinds
import PyProof.TupleCall
import KE.BitLaws
import Open.SpecLaws
import KE.OsHead
import KE.OsGo
import PySem.Challenge.RW_askedproducts_s05_even
set_option Elab.async false
set_option linter.all false
set_option maxRecDepth 100000
namespace L2
open PySem PySem.Spec PyProof.Rows
abbrev Key := Sum Int Str
def keyIs : Key → Value → Bool
  | .inl k, v => Value.isInt k v
  | .inr x, v => Value.isStrOf x v
def keyH (w : World) : Key → Int
  | .inl k => hashInt k
  | .inr x => hashStr w x
theorem keyIs_shape : ∀ {k : Key} {v : Value}, keyIs k v = true → (∃ i t, k = Sum.inl i ∧ v = Value.int i t) ∨ (∃ x t, k = Sum.inr x ∧ v = Value.str x t)
  | .inl i, v, h => by
    obtain ⟨t, e⟩ := Value.isInt_shape (k := i) (v := v) h
    exact .inl ⟨i, t, rfl, e⟩
  | .inr x, v, h => by
    obtain ⟨t, e⟩ := Value.isStrOf_shape (x := x) (v := v) h
    exact .inr ⟨x, t, rfl, e⟩
theorem key_ll (a b : Int) : decide ((Sum.inl a : Key) = Sum.inl b) = (a == b) := by
  by_cases e : a = b
  · subst e; simp
  · have h : ¬ (Sum.inl a : Key) = Sum.inl b := fun q => e (Sum.inl.inj q)
    rw [decide_eq_false h]
    exact (beq_eq_false_iff_ne.mpr e).symm
theorem key_rr (a b : Str) : decide ((Sum.inr a : Key) = Sum.inr b) = decide (a = b) := by
  by_cases e : a = b
  · subst e; simp
  · have h : ¬ (Sum.inr a : Key) = Sum.inr b := fun q => e (Sum.inr.inj q)
    rw [decide_eq_false h, decide_eq_false e]
theorem key_lr (a : Int) (b : Str) : decide ((Sum.inl a : Key) = Sum.inr b) = false := decide_eq_false (fun q => nomatch q)
theorem key_rl (a : Str) (b : Int) : decide ((Sum.inr a : Key) = Sum.inl b) = false := decide_eq_false (fun q => nomatch q)
def mixKind (prog : Program) (w : World) : PySem.KeyKind prog w Key where
  is := keyIs
  hash := keyH w
  inj := fun v a b ha hb => by
    rcases keyIs_shape ha with ⟨i, t, rfl, rfl⟩ | ⟨x, t, rfl, rfl⟩
    · rcases keyIs_shape hb with ⟨j, u, rfl, e⟩ | ⟨y, u, rfl, e⟩
      · injection e with e1 _; rw [e1]
      · exact nomatch e
    · rcases keyIs_shape hb with ⟨j, u, rfl, e⟩ | ⟨y, u, rfl, e⟩
      · exact nomatch e
      · injection e with e1 _; rw [e1]
  byValue := fun k v h => by
    rcases keyIs_shape h with ⟨i, t, rfl, rfl⟩ | ⟨x, t, rfl, rfl⟩ <;> rfl
  pyHash := fun hv h => by
    rcases keyIs_shape hv with ⟨i, t, rfl, rfl⟩ | ⟨x, t, rfl, rfl⟩
    · exact wpAny_pyHash_int h
    · exact wpAny_pyHash_str h
  eqBool := fun hu hv h => by
    rcases keyIs_shape hu with ⟨i, t, rfl, rfl⟩ | ⟨x, t, rfl, rfl⟩
    · rcases keyIs_shape hv with ⟨j, u, rfl, rfl⟩ | ⟨y, u, rfl, rfl⟩
      · rw [key_ll] at h; exact wpAny_eqBool_int h
      · rw [key_lr] at h; exact SeqAt.EqAt.int_str i t y u _ _ _ _ h
    · rcases keyIs_shape hv with ⟨j, u, rfl, rfl⟩ | ⟨y, u, rfl, rfl⟩
      · rw [key_rl] at h; exact SeqAt.EqAt.str_int x t j u _ _ _ _ h
      · rw [key_rr] at h; exact wpAny_eqBool_str h
  «strs» := fun k x t v h => by
    rcases keyIs_shape h with ⟨i, u, rfl, e⟩ | ⟨y, u, rfl, e⟩
    · exact nomatch e
    · injection e with e1 _
      subst e1
      cases v <;> rfl
end L2
namespace L2
open PySem PySem.Spec PyProof.Rows
inductive V where
  | non | bl (b : Bool) | int (i : Int) | str (x : Str) | byt (b : Array UInt8) | flt (b : UInt64) | ref (a : Addr) | ty (n : String)
  deriving DecidableEq
def RelV : V → Value → Prop
  | .non, u => u = Value.none
  | .bl b, u => u = Value.bool b
  | .int i, u => ∃ t, u = Value.int i t
  | .str x, u => ∃ t, u = Value.str x t
  | .byt b, u => ∃ t, u = Value.bytes b t
  | .flt b, u => ∃ t, u = Value.float b t
  | .ref a, u => u = Value.ref a
  | .ty n, u => u = Value.type n
abbrev Vals : List V → List Value → Prop := Paired RelV
theorem Vals.length {xs : List V} {us : List Value} (r : Vals xs us) : xs.length = us.length := Paired.length r
theorem Vals.get : ∀ {xs : List V} {us : List Value} {i : Nat} {x : V}, Vals xs us → xs[i]? = some x → ∃ u, us[i]? = some u ∧ RelV x u
  | _, _, _, _, .nil, e => by simp at e
  | _, _, 0, _, .cons r _, e => by simp at e; subst e; exact ⟨_, rfl, r⟩
  | _, _, i + 1, x, .cons _ t, e => by
    obtain ⟨u, h1, h2⟩ := Vals.get (i := i) (x := x) t (by simpa using e)
    exact ⟨u, by simpa using h1, h2⟩
theorem Vals.append : ∀ {xs ys : List V} {us ws : List Value}, Vals xs us → Vals ys ws → Vals (xs ++ ys) (us ++ ws)
  | _, _, _, _, .nil, s => s
  | _, _, _, _, .cons r t, s => .cons r (Vals.append t s)
def RelO : Option V → Option Value → Prop
  | some v, some u => RelV v u
  | none, none => True
  | _, _ => False
def KV {κ : Type} : List (κ × V) → List (κ × Value) → Prop := Paired fun (p : κ × V) (q : κ × Value) => p.1 = q.1 ∧ RelV p.2 q.2
def kV : Key → V
  | .inl i => .int i
  | .inr x => .str x
inductive HO where
  /-- a list -/
  | lst (xs : List V)
  /-- a tuple (never changes) -/
  | tup (xs : List V)
  /-- a dict whose keys are ints and texts; one whose keys are tuples of ints and texts (the empty one is both) -/
  | dK (kvs : List (Key × V)) | dT (kvs : List (List Key × V))
  /-- a set of ints: its members, its size -/
  | set (S : Int → Bool) (n : Nat)
  /-- an instance of the class at C, its dict at dx, its attributes -/
  | ins (C dx : Addr) (fs : List (Str × V))
  /-- the dict of the instance at x -/
  | own (x : Addr)
  /-- the dict of an exception -/
  | xd (fs : List (Str × V))
  /-- a bound method, f of x -/
  | met (f x : Addr)
  /-- a range object lo, lo + 1, .. below hi -/
  | rng (lo hi : Int)
  /-- a thing that is known to the object (the script; a dict while a loop walks it): read, never written while it is so -/
  | frz (o : Obj) (u : HO)
  /-- a code object's table -/
  | tbl (ps : Array Value)
  /-- any other thing, by what is true of its one object (a def of one's own: SetO a S n := HO.ext fun h => ..) -/
  | ext (φ : Heap → Prop)
abbrev Hp := Addr → Option HO
def upd (H : Hp) (a : Addr) (o : HO) : Hp := fun b => if b = a then some o else H b
theorem upd_same {H : Hp} {a : Addr} {o : HO} : upd H a o a = some o := by unfold upd; rw [if_pos rfl]
theorem upd_ne {H : Hp} {a b : Addr} {o : HO} (h : b ≠ a) : upd H a o b = H b := by unfold upd; rw [if_neg h]
theorem ne_of {H : Hp} {a b : Addr} {o u : HO} (h : H a = some o) (h' : H b = some u) (d : o ≠ u) : a ≠ b := by
  intro e; subst e; rw [h] at h'; exact d (Option.some.inj h')
theorem ne_of_none {H : Hp} {a b : Addr} {o : HO} (h : H a = some o) (h' : H b = none) : a ≠ b := by
  intro e; subst e; rw [h] at h'; cases h'
section
variable (P : Program) (w : World)
def ObjOk (H : Hp) (h : Heap) (a : Addr) : HO → Prop
  | .lst xs => xs.length ≤ sizeLine ∧ ∃ (its : List Value) (n : Nat), Vals xs its ∧ h.get? a = some { cls := .type "list", data := .seq its.toArray n }
  | .tup xs => xs.length ≤ sizeLine ∧ ∃ its : List Value, Vals xs its ∧ IsTup h a its.toArray
  | .dK kvs => kvs.length ≤ sizeLine ∧ (a == sysModules) = false ∧ ∃ vs, KV kvs vs ∧ h.DictOf (mixKind P w) a vs
  | .dT kvs => kvs.length ≤ sizeLine ∧ (a == sysModules) = false ∧ ∃ xs : List (List Key × Addr × Value),
      Paired (fun (p : List Key × V) (q : List Key × Addr × Value) => p.1 = q.1 ∧ H q.2.1 = some (.tup (p.1.map kV)) ∧ RelV p.2 q.2.2) kvs xs ∧
      ∃ o es ep, h.get? a = some o ∧ o.ExactDict ∧ o.data = .dict es ep ∧ es.toList = xs.map (entryOfKey (tupleKind (mixKind P w))) ∧ (xs.map (·.1)).Nodup
  | .set S n => h.SetOf (intKind P w) a S n
  | .ins C dx fs => H dx = some (.own a) ∧ fs.length ≤ 1000 ∧ dx ≠ a ∧ h.get? a = some (PySem.W.instObj C dx) ∧
      ∃ mA, h.Ns1 dx mA ∧ (∀ f, RelO (fs.lookup f) (mA f)) ∧ PySem.Within mA (fs.map (·.1))
  | .own _ => ∃ o, h.get? a = some o
  | .xd fs => ∃ mA, h.Ns1 a mA ∧ ∀ f, RelO (fs.lookup f) (mA f)
  | .rng lo hi => ∃ t u v, h.get? a = some { cls := .type "range", data := .fields #[.int lo t, .int hi u, .int 1 v] }
  | .frz o u => h.get? a = some o ∧ ObjOk H h a u
  | .tbl ps => h.get? a = some { cls := .none, data := .fields ps }
  | .met f x => h.get? a = some (PySem.W.methodObj (.ref f) (.ref x))
  | .ext φ => φ h ∧ (∃ o, h.get? a = some o) ∧ ∀ h1 h2 : Heap, φ h1 → (∀ o, h1.get? a = some o → h2.get? a = some o) → φ h2
def HOk (H : Hp) (h : Heap) : Prop := ∀ a o, H a = some o → ObjOk P w H h a o
end
section
variable {P : Program} {w : World} {H H' : Hp} {h h' : Heap} {a : Addr} {o : HO}
theorem ObjOk.lt (x : ObjOk P w H h a o) : a < h.objs.size := by
  cases o with
  | lst xs => obtain ⟨_, _, _, _, e⟩ := x; exact Heap.lt_size e
  | tup xs => obtain ⟨_, _, _, p⟩ := x; exact p.lt
  | dK kvs => obtain ⟨_, _, _, _, o, _, _, e, _⟩ := x; exact Heap.lt_size e
  | dT kvs => obtain ⟨_, _, _, _, o, _, _, e, _⟩ := x; exact Heap.lt_size e
  | set S n => obtain ⟨o, _, _, _, e, _⟩ := x; exact Heap.lt_size e
  | ins C dx fs => obtain ⟨_, _, _, e, _⟩ := x; exact Heap.lt_size e
  | own y => obtain ⟨_, e⟩ := x; exact Heap.lt_size e
  | xd fs => obtain ⟨_, ⟨_, _, _, e, _⟩, _⟩ := x; exact Heap.lt_size e
  | rng lo hi => obtain ⟨_, _, _, e⟩ := x; exact Heap.lt_size e
  | frz ob u => obtain ⟨e, _⟩ := x; exact Heap.lt_size e
  | tbl ps => exact Heap.lt_size (show h.get? a = some _ from x)
  | met f y => exact Heap.lt_size (show h.get? a = some _ from x)
  | ext φ => obtain ⟨_, ⟨_, e⟩, _⟩ := x; exact Heap.lt_size e
theorem Paired.mapP {α β : Type} {F G : α → β → Prop} : ∀ {l₁ : List α} {l₂ : List β}, Paired F l₁ l₂ → (∀ a b, F a b → G a b) → Paired G l₁ l₂
  | _, _, .nil, _ => .nil
  | _, _, .cons r t, f => .cons (f _ _ r) (Paired.mapP t f)
theorem ObjOk.stay (x : ObjOk P w H h a o) (k : ∀ b u, (b = a ∨ H b = some (.own a)) → h.get? b = some u → h'.get? b = some u)
    (ho : ∀ b, H b = some (.own a) → H' b = some (.own a)) (ht : ∀ b xs, H b = some (.tup xs) → H' b = some (.tup xs)) : ObjOk P w H' h' a o := by
  induction o with
  | lst xs => obtain ⟨z, its, n, r, e⟩ := x; exact ⟨z, its, n, r, k _ _ (.inl rfl) e⟩
  | tup xs => obtain ⟨z, its, r, ob, e, c⟩ := x; exact ⟨z, its, r, ob, k _ _ (.inl rfl) e, c⟩
  | dK kvs => obtain ⟨z, y, vs, r, ob, es, ep, e, c⟩ := x; exact ⟨z, y, vs, r, ob, es, ep, k _ _ (.inl rfl) e, c⟩
  | dT kvs =>
    obtain ⟨z, y, xs, r, ob, es, ep, e, c⟩ := x
    exact ⟨z, y, xs, Paired.mapP r fun p q z => ⟨z.1, ht _ _ z.2.1, z.2.2⟩, ob, es, ep, k _ _ (.inl rfl) e, c⟩
  | set S n => obtain ⟨ob, es, ep, t, e, c⟩ := x; exact ⟨ob, es, ep, t, k _ _ (.inl rfl) e, c⟩
  | ins C dx fs =>
    obtain ⟨d, z, ne, e, mA, ⟨od, es, ep, e2, c⟩, r⟩ := x
    exact ⟨ho _ d, z, ne, k _ _ (.inl rfl) e, mA, ⟨od, es, ep, k _ _ (.inr d) e2, c⟩, r⟩
  | own y => obtain ⟨ob, e⟩ := x; exact ⟨ob, k _ _ (.inl rfl) e⟩
  | xd fs => obtain ⟨mA, ⟨od, es, ep, e, c⟩, r⟩ := x; exact ⟨mA, ⟨od, es, ep, k _ _ (.inl rfl) e, c⟩, r⟩
  | rng lo hi => obtain ⟨t, u, v, e⟩ := x; exact ⟨t, u, v, k _ _ (.inl rfl) e⟩
  | frz ob u ih => obtain ⟨e, q⟩ := x; exact ⟨k _ _ (.inl rfl) e, ih q⟩
  | tbl ps =>
    have e : h.get? a = some { cls := .none, data := .fields ps } := x
    show h'.get? a = some { cls := .none, data := .fields ps }
    exact k a _ (.inl rfl) e
  | met f y =>
    have e : h.get? a = some (PySem.W.methodObj (.ref f) (.ref y)) := x
    show h'.get? a = some (PySem.W.methodObj (.ref f) (.ref y))
    exact k a _ (.inl rfl) e
  | ext φ => obtain ⟨p, ⟨o, e⟩, st⟩ := x; exact ⟨st _ _ p fun o q => k _ _ (.inl rfl) q, ⟨o, k _ _ (.inl rfl) e⟩, st⟩
theorem HOk.lt (x : HOk P w H h) (e : H a = some o) : a < h.objs.size := (x a o e).lt
theorem HOk.fresh (x : HOk P w H h) (e : h.objs.size ≤ a) : H a = none := by
  cases q : H a with
  | none => rfl
  | some u => exact absurd (Nat.lt_of_lt_of_le (x.lt q) e) (Nat.lt_irrefl _)
theorem HOk.kept (x : HOk P w H h) (k : ∀ b u, h.get? b = some u → h'.get? b = some u) : HOk P w H h' := fun a o e =>
  (x a o e).stay (fun b u _ q => k b u q) (fun _ q => q) fun _ _ q => q
theorem HOk.laid (x : HOk P w H h) (k : ∀ b u, h.get? b = some u → h'.get? b = some u) (hp : h.objs.size ≤ a) (new : ObjOk P w (upd H a o) h' a o) : HOk P w (upd H a o) h' := fun b u e => by
  have hn := x.fresh hp
  by_cases hb : b = a
  · subst hb; rw [upd_same] at e; cases e; exact new
  · rw [upd_ne hb] at e
    exact (x b u e).stay (fun c v _ q => k c v q) (fun c q => by rw [upd_ne (ne_of_none q hn)]; exact q) fun c xs q => by rw [upd_ne (ne_of_none q hn)]; exact q
end
def Rd (H : Hp) (a : Addr) (u : HO) : Prop := H a = some u ∨ ∃ o, H a = some (.frz o u)
theorem Rd.ok {P : Program} {w : World} {H : Hp} {h : Heap} {a : Addr} {u : HO} (r : Rd H a u) (x : HOk P w H h) : ObjOk P w H h a u := by
  rcases r with r | ⟨o, r⟩
  · exact x a u r
  · obtain ⟨_, q⟩ := x a _ r
    exact q
def Mut : Option HO → Prop
  | some (.lst _) => True
  | some (.dK _) => True
  | some (.dT _) => True
  | some (.set _ _) => True
  | some (.ins _ _ _) => True
  | some (.ext _) => True
  | _ => False
section
variable {P : Program} {w : World} {H : Hp} {h h' : Heap} {x e : Addr} {o' : HO}
theorem HOk.write (ok : HOk P w H h) (mu : Mut (H x)) (he : e = x ∨ H e = some (.own x)) (k : ∀ b u, b ≠ e → h.get? b = some u → h'.get? b = some u) (heo : ∃ u, h'.get? e = some u)
    (new : ObjOk P w (upd H x o') h' x o') : HOk P w (upd H x o') h' := fun b u q => by
  have nown : ∀ c y, H c = some (.own y) → c ≠ x := fun c y r z => by subst z; rw [r] at mu; exact mu
  have ntup : ∀ c xs, H c = some (.tup xs) → c ≠ x := fun c xs r z => by subst z; rw [r] at mu; exact mu
  by_cases hb : b = x
  · subst hb; rw [upd_same] at q; cases q; exact new
  · rw [upd_ne hb] at q
    by_cases hbe : b = e
    · have q' : H b = some (.own x) := by
        rcases he with z | z
        · exact absurd (hbe.trans z) hb
        · rw [hbe]; exact z
      rw [q] at q'; cases q'
      obtain ⟨v, hv⟩ := heo
      exact ⟨v, by rw [hbe]; exact hv⟩
    · refine (ok b u q).stay (fun c v hc r => k c v ?_ r) (fun c r => by rw [upd_ne (nown c b r)]; exact r) fun c xs r => by rw [upd_ne (ntup c xs r)]; exact r
      rcases hc with rfl | hc
      · exact hbe
      · rintro rfl
        rcases he with z | z
        · exact nown c b hc z
        · rw [hc] at z; cases z; exact hb rfl
end
/-! ### kept unless tracked; of the frames at fs (the callers') the slots may change (an exception that passes writes there); of the records at ex (iterators) nothing is said -/
structure Un (fs ex : List Addr) (H H' : Hp) (h h' : Heap) : Prop where
  keep : ∀ b o, h.get? b = some o → H b = none → b ∉ fs → b ∉ ex → h'.get? b = some o
  slot : ∀ b o, h.get? b = some o → H b = none → b ∈ fs → b ∉ ex → ∃ sl, h'.get? b = some { o with slots := sl }
  free : ∀ b o, h.get? b = some o → H b = none → b ∉ ex → H' b = none
  there : ∀ b o, h.get? b = some o → b ∉ ex → ∃ o', h'.get? b = some o'
  tups : ∀ b xs, H b = some (.tup xs) → H' b = some (.tup xs)
  frzs : ∀ b o u, H b = some (.frz o u) → H' b = some (.frz o u)
  tbls : ∀ b ps, H b = some (.tbl ps) → ∃ more, H' b = some (.tbl (ps ++ more))
section
variable {fs fs' ex ex' : List Addr} {H H1 H2 : Hp} {h h1 h2 h' : Heap} {a x e : Addr} {o : HO}
theorem Un.any (u : Un fs ex H H1 h h1) {b : Addr} {ob : Obj} (q : h.get? b = some ob) (n : H b = none) (hx : b ∉ ex) : ∃ sl, h1.get? b = some { ob with slots := sl } := by
  by_cases hb : b ∈ fs
  · exact u.slot b ob q n hb hx
  · exact ⟨ob.slots, u.keep b ob q n hb hx⟩
theorem Un.kept (k : ∀ b u, h.get? b = some u → h'.get? b = some u) : Un fs ex H H h h' :=
  ⟨fun b ob q _ _ _ => k b ob q, fun b ob q _ _ _ => ⟨ob.slots, k b ob q⟩, fun _ _ _ n _ => n, fun b ob q _ => ⟨ob, k b ob q⟩, fun _ _ q => q, fun _ _ _ q => q, fun _ ps q => ⟨#[], by rw [q]; simp⟩⟩
theorem Un.refl : Un fs ex H H h h := Un.kept fun _ _ q => q
theorem Un.laid (k : ∀ b u, h.get? b = some u → h'.get? b = some u) (hp : h.objs.size ≤ a) (hn : H a = none) : Un fs ex H (upd H a o) h h' where
  keep := fun b u q _ _ _ => k b u q
  slot := fun b u q _ _ _ => ⟨u.slots, k b u q⟩
  free := fun b u q n _ => by rw [upd_ne (Nat.ne_of_lt (Nat.lt_of_lt_of_le (Heap.lt_size q) hp))]; exact n
  there := fun b u q _ => ⟨u, k b u q⟩
  tups := fun b xs q => by rw [upd_ne (ne_of_none q hn)]; exact q
  frzs := fun b u xs q => by rw [upd_ne (ne_of_none q hn)]; exact q
  tbls := fun b ps q => ⟨#[], by rw [upd_ne (ne_of_none q hn), q]; simp⟩
theorem Un.write (mu : Mut (H x)) (he : e = x ∨ H e = some (.own x)) (k : ∀ b u, b ≠ e → h.get? b = some u → h'.get? b = some u) (heo : ∃ u, h'.get? e = some u) : Un fs ex H (upd H x o) h h' := by
  have hx : ∀ b, H b = none → b ≠ x := fun b n z => by subst z; rw [n] at mu; exact mu
  have hb : ∀ b, H b = none → b ≠ e := fun b n z => by
    subst z
    rcases he with r | r
    · exact hx b n r
    · rw [n] at r; cases r
  have hm : ∀ b u, H b = some u → ¬ Mut (some u) → b ≠ x := fun b u q nm z => by subst z; rw [q] at mu; exact nm mu
  refine ⟨fun b u q n _ _ => k b u (hb b n) q, fun b u q n _ _ => ⟨u.slots, k b u (hb b n) q⟩, fun b u q n _ => by rw [upd_ne (hx b n)]; exact n, fun b u q _ => ?_,
    fun b xs q => by rw [upd_ne (hm b _ q fun z => z)]; exact q, fun b u xs q => by rw [upd_ne (hm b _ q fun z => z)]; exact q, fun b ps q => ⟨#[], by rw [upd_ne (hm b _ q fun z => z), q]; simp⟩⟩
  by_cases hbe : b = e
  · subst hbe; exact heo
  · exact ⟨u, k b u hbe q⟩
end
/-! ### the heap without what is tracked -/
def trk (h : Heap) (H : Hp) : List Addr := (List.range h.objs.size).filter fun a => (H a).isSome
def hidT (h : Heap) (H : Hp) : Heap := PySem.W.hideAll h (trk h H)
theorem hidT_size (h : Heap) (H : Hp) : (hidT h H).objs.size = h.objs.size := PySem.W.hideAll_size _ _
theorem hidT_get {h : Heap} {H : Hp} {b : Addr} {o : Obj} (e : h.get? b = some o) (n : H b = none) : (hidT h H).get? b = some o :=
  PySem.W.hideAll_get _ e fun hm => by
    have q : (H b).isSome = true := (List.mem_filter.mp hm).2
    rw [n] at q; simp at q
theorem of_hidT {h : Heap} {H : Hp} {b : Addr} {o : Obj} (e : (hidT h H).get? b = some o) : h.get? b = some o ∧ H b = none := by
  have e' : h.get? b = some o := PySem.W.of_hideAll (trk h H) e
  refine ⟨e', ?_⟩
  cases q : H b with
  | none => rfl
  | some x =>
    have hm : b ∈ trk h H := List.mem_filter.mpr ⟨List.mem_range.mpr (Heap.lt_size e'), by simp [q]⟩
    have z : (hidT h H).get? b = none := PySem.W.hideAll_none (trk h H) hm
    rw [z] at e; cases e
/-! ### OpenK's ledger, filled with every new object but one -/
def allNews (g h : Heap) (L : Addr) : List (Addr × Obj) := (List.range h.objs.size).filterMap fun a => if a = L ∨ (g.get? a).isSome = true then none else (h.get? a).map fun o => (a, o)
def rest (g h : Heap) (L d : Addr) : List (Addr × Obj) := (allNews g h L).filter fun p => decide (p.1 ≠ d)
end L2
namespace L2
open PySem PySem.Spec PyProof.Rows
structure Mod (K : PySem.W.Frag) (mg : Str → Option Value) (base : Heap) : Prop where
  kin : K.In base
  glob : base.Ns mainGlobals mg
  blt : ∃ mb, base.Ns builtinsNs mb ∧ ∀ x : Str, x ≠ "__name__" → mb x = bootBuiltins x
  nolimit : base.NoLimit
structure Cx where
  prog : Program
  w : World
  K : PySem.W.Frag
  mg : Str → Option Value
  base : Heap
  A : Around
  N : List Str
  s_0 : Shared
  H_0 : Hp
  env : Env
  outer : List Env
  stack : List Env
  ex : List Addr
  fn : Str → Bool
  calm : Bool
  pn : List (Addr × Obj)
  xe : Value → Shared → Prop
def frs (l : List Env) : List Addr := l.filterMap (·.frame)
abbrev Cx.fs (X : Cx) : List Addr := frs X.outer
def Vis (sc : Scope) (x : Str) : Prop := sc.names.lookup x = some .local ∨ sc.names.lookup x = some .cell ∨ sc.names.lookup x = some .free
def Loc (sc : Scope) (x : Str) : Prop := sc.names.lookup x = some .local ∨ sc.names.lookup x = some .cell
def Look (env : Env) (h : Heap) (m : Str → Option Value) (x : Str) (u : Value) : Prop :=
  (env.kindOf x = some .local ∧ m x = some u) ∨ ((env.kindOf x = some .cell ∨ env.kindOf x = some .free) ∧ ∃ c, env.cells.lookup x = some c ∧ h.IsCell c (some u))
structure Cx.Ok (X : Cx) : Prop where
  mod : Mod X.K X.mg X.base
  kind : X.env.scope.kind = .function
  glob : X.env.globals = mainGlobals
  blt : X.env.builtins = builtinsNs
  above : X.s_0.heap.objs.size ≤ X.env.locals
  inj : ∀ x y c, X.env.cells.lookup x = some c → X.env.cells.lookup y = some c → x = y
  has : ∀ x, (X.env.kindOf x = some .cell ∨ X.env.kindOf x = some .free) → ∃ c, X.env.cells.lookup x = some c
  cab : ∀ x c, X.fn x = true → X.env.cells.lookup x = some c → X.s_0.heap.objs.size ≤ c
  hd : X.calm = true → X.A.handled = none
  frames : X.A.frames = some X.stack
  stk : X.stack = X.outer ∨ (X.stack = X.env :: X.outer ∧ X.env.frame = some X.env.locals)
  exf : ∀ b ∈ X.ex, b ≠ X.env.locals ∧ ∀ x c, X.env.cells.lookup x = some c → c ≠ b
  bs : ∀ b o, X.base.get? b = some o → X.s_0.heap.get? b = some o ∧ X.H_0 b = none
  bsz : X.base.objs.size ≤ X.s_0.heap.objs.size
  noex : ∀ b o, X.base.get? b = some o → b ∉ X.ex
  exfs : ∀ b ∈ X.ex, b ∉ X.fs
  funs : X.s_0.heap.FunFrames X.base X.outer
  frf : ∀ b ∈ X.fs, X.H_0 b = none
structure Inv (X : Cx) (pins : List (Addr × Obj)) (σ : List (Option V)) (H : Hp) (s : Shared) : Prop where
  ok : X.Ok
  os : s.os = X.s_0.os
  bare : AllBare s.gens
  base : Un X.fs X.ex X.H_0 H X.s_0.heap s.heap
  loc : ∃ m, s.heap.Ns X.env.locals m ∧ ∀ (i : Nat) (x : Str) (v : V), X.N[i]? = some x → σ[i]? = some (some v) → Vis X.env.scope x → ∃ u, RelV v u ∧ Look X.env s.heap m x u
  cell : ∀ x c, X.env.cells.lookup x = some c → ∃ v, s.heap.IsCell c v
  free : H X.env.locals = none
  freeC : ∀ x c, X.env.cells.lookup x = some c → H c = none
  pin : ∀ p ∈ X.pn ++ pins, s.heap.get? p.1 = some p.2 ∧ H p.1 = none ∧ p.1 ≠ X.env.locals ∧ p.1 ∉ X.fs ∧ ∀ v, p.2.data ≠ .cell v
  hok : HOk X.prog X.w H s.heap
  len : σ.length = X.N.length
section
variable {X : Cx} {pins : List (Addr × Obj)} {σ : List (Option V)} {H H' : Hp} {s : Shared} {h' : Heap}
theorem Cx.Ok.nofr (ok : X.Ok) {b : Addr} {o : Obj} (e : X.base.get? b = some o) : b ∉ X.fs := fun hb => by
  have := (ok.funs.mem hb).1
  rw [e] at this; cases this
theorem Inv.bs (I : Inv X pins σ H s) : ∀ b o, X.base.get? b = some o → s.heap.get? b = some o ∧ H b = none := fun b o e =>
  ⟨I.base.keep b o (I.ok.bs b o e).1 (I.ok.bs b o e).2 (I.ok.nofr e) (I.ok.noex b o e), I.base.free b o (I.ok.bs b o e).1 (I.ok.bs b o e).2 (I.ok.noex b o e)⟩
theorem Inv.bk (I : Inv X pins σ H s) : ∀ b o, X.base.get? b = some o → s.heap.get? b = some o := fun b o e => (I.bs b o e).1
theorem Inv.mod (I : Inv X pins σ H s) : Mod X.K X.mg X.base := I.ok.mod
theorem Inv.kIn (I : Inv X pins σ H s) : X.K.In s.heap := I.ok.mod.kin.keeps I.bk
theorem Inv.lt (I : Inv X pins σ H s) : X.env.locals < s.heap.objs.size := let ⟨_, hn, _⟩ := I.loc; hn.lt
theorem Inv.sz (I : Inv X pins σ H s) : X.s_0.heap.objs.size ≤ s.heap.objs.size := Nat.le_trans I.ok.above (Nat.le_of_lt I.lt)
theorem Inv.nofs (I : Inv X pins σ H s) {a : Addr} (h : s.heap.objs.size ≤ a) : a ∉ X.fs := fun hb => by
  obtain ⟨_, o, ho, _⟩ := I.ok.funs.mem hb
  exact absurd (Nat.lt_of_lt_of_le (Heap.lt_size ho) (Nat.le_trans I.sz h)) (Nat.lt_irrefl _)
theorem Inv.cne (I : Inv X pins σ H s) : ∀ x c, X.env.cells.lookup x = some c → c ≠ X.env.locals := fun x c e z => by
  obtain ⟨v, o, ho, hd⟩ := I.cell x c e
  obtain ⟨m, ⟨o', es, ep, ho', hd', _⟩, _⟩ := I.loc
  rw [z, ho'] at ho; cases ho; rw [hd'] at hd; cases hd
theorem Inv.funs (I : Inv X pins σ H s) : s.heap.FunFrames X.base X.outer := by
  have all : ∀ (l : List Env), (∀ b ∈ frs l, b ∈ X.fs) → X.s_0.heap.FunFrames X.base l → s.heap.FunFrames X.base l := by
    intro l
    induction l with
    | nil => intro _ _; trivial
    | cons env r ih =>
      intro hs hl
      obtain ⟨hk, ⟨L, o, hf, hn, ho, hd⟩, hr⟩ := hl
      have hL : L ∈ X.fs := hs L (by unfold frs; rw [List.filterMap_cons, hf]; exact List.mem_cons_self)
      obtain ⟨sl, e⟩ := I.base.slot L o ho (I.ok.frf L hL) hL fun z => I.ok.exfs L z hL
      exact ⟨hk, ⟨L, _, hf, hn, e, hd⟩, ih (fun b hb => hs b (by unfold frs; rw [List.filterMap_cons, hf]; exact List.mem_cons_of_mem _ hb)) hr⟩
  exact all X.outer (fun _ hb => hb) I.ok.funs
theorem Inv.stack (I : Inv X pins σ H s) : s.heap.FunFrames X.base X.stack := by
  rcases I.ok.stk with e | ⟨e, hf⟩
  · rw [e]; exact I.funs
  · rw [e]
    obtain ⟨m, hn, _⟩ := I.loc
    refine .cons (by rw [I.ok.kind]; decide) hf hn ?_ I.funs
    exact Heap.get?_none_of_le (Nat.le_trans I.ok.bsz I.ok.above)
theorem Inv.stkSub (I : Inv X pins σ H s) : ∀ b ∈ frs X.stack, b ∈ X.env.locals :: X.fs := fun b hb => by
  rcases I.ok.stk with e | ⟨e, hf⟩
  · rw [e] at hb; exact List.mem_cons_of_mem _ hb
  · rw [e] at hb
    unfold frs at hb
    rw [List.filterMap_cons, hf] at hb
    exact hb
theorem Inv.stkFree (I : Inv X pins σ H s) : ∀ b ∈ frs X.stack, H b = none := fun b hb => by
  rcases List.mem_cons.mp (I.stkSub b hb) with e | hb
  · rw [e]; exact I.free
  · obtain ⟨_, o, ho, _⟩ := I.ok.funs.mem hb
    exact I.base.free b o ho (I.ok.frf b hb) fun z => I.ok.exfs b z hb
theorem Inv.step {g' : Array GenState} {t' : Nat} {d' : Drawn} {ch : List Addr} (I : Inv X pins σ H s)
    (hch : ∀ b ∈ ch, (b ∈ X.ex ∨ X.s_0.heap.objs.size ≤ b) ∧ b ≠ X.env.locals ∧ (∀ x c, X.env.cells.lookup x = some c → c ≠ b) ∧ ∀ p ∈ X.pn ++ pins, p.1 ≠ b)
    (keep : ∀ b o, b ≠ X.env.locals → b ∉ X.fs → b ∉ ch → s.heap.get? b = some o → H b = none → h'.get? b = some o)
    (slot : ∀ b o, b ≠ X.env.locals → b ∈ X.fs → b ∉ ch → s.heap.get? b = some o → H b = none → ∃ sl, h'.get? b = some { o with slots := sl }) (free : ∀ b o, b ∉ ch → s.heap.get? b = some o → H b = none → H' b = none)
    (there : ∀ b o, b ∉ ch → s.heap.get? b = some o → ∃ o', h'.get? b = some o')
    (tups : ∀ b xs, H b = some (.tup xs) → H' b = some (.tup xs)) (frzs : ∀ b o u, H b = some (.frz o u) → H' b = some (.frz o u)) (tbls : ∀ b ps, H b = some (.tbl ps) → ∃ more, H' b = some (.tbl (ps ++ more)))
    (ns : ∀ m, s.heap.Ns X.env.locals m → h'.Ns X.env.locals m) (hok : HOk X.prog X.w H' h') (hg : AllBare g') :
    Inv X pins σ H' { s with heap := h', gens := g', drawn := d', toks := t' } := by
  have neL : ∀ b o, X.s_0.heap.get? b = some o → b ≠ X.env.locals := fun b o e => Nat.ne_of_lt (Nat.lt_of_lt_of_le (Heap.lt_size e) I.ok.above)
  have neC : ∀ b o, X.s_0.heap.get? b = some o → b ∉ X.ex → b ∉ ch := fun b o e hx hb => by
    rcases (hch b hb).1 with z | z
    · exact hx z
    · exact absurd (Nat.lt_of_lt_of_le (Heap.lt_size e) z) (Nat.lt_irrefl _)
  have cellK : ∀ x c, X.env.cells.lookup x = some c → ∀ v, s.heap.IsCell c v → h'.IsCell c v := fun x c e v ⟨o, ho, hd⟩ => by
    have nch : c ∉ ch := fun z => (hch c z).2.2.1 x c e rfl
    by_cases hc : c ∈ X.fs
    · obtain ⟨sl, q⟩ := slot c o (I.cne x c e) hc nch ho (I.freeC x c e)
      exact ⟨_, q, hd⟩
    · exact ⟨o, keep c o (I.cne x c e) hc nch ho (I.freeC x c e), hd⟩
  refine ⟨I.ok, I.os, hg, ⟨fun b o e n hb hx => ?_, fun b o e n hb hx => ?_, fun b o e n hx => ?_, fun b o e hx => ?_, fun b xs e => tups b xs (I.base.tups b xs e), fun b o xs e => frzs b o xs (I.base.frzs b o xs e), fun b ps e => ?_⟩, ?_, fun x c e => ?_, ?_, fun x c e => ?_, fun p hp => ?_, hok, I.len⟩
  · exact keep b o (neL b o e) hb (neC b o e hx) (I.base.keep b o e n hb hx) (I.base.free b o e n hx)
  · obtain ⟨sl, e1⟩ := I.base.slot b o e n hb hx
    obtain ⟨sl', e2⟩ := slot b _ (neL b o e) hb (neC b o e hx) e1 (I.base.free b o e n hx)
    exact ⟨sl', e2⟩
  · obtain ⟨o', e1⟩ := I.base.there b o e hx
    exact free b o' (neC b o e hx) e1 (I.base.free b o e n hx)
  · obtain ⟨o', e1⟩ := I.base.there b o e hx
    exact there b o' (neC b o e hx) e1
  · obtain ⟨m1, e1⟩ := I.base.tbls b ps e
    obtain ⟨m2, e2⟩ := tbls b _ e1
    exact ⟨m1 ++ m2, by rw [e2, Array.append_assoc]⟩
  · obtain ⟨m, hn, hl⟩ := I.loc
    refine ⟨m, ns m hn, fun i x v e1 e2 e3 => ?_⟩
    obtain ⟨u, r, l⟩ := hl i x v e1 e2 e3
    refine ⟨u, r, ?_⟩
    rcases l with l | ⟨k, c, e, z⟩
    · exact .inl l
    · exact .inr ⟨k, c, e, cellK x c e _ z⟩
  · obtain ⟨v, z⟩ := I.cell x c e
    exact ⟨v, cellK x c e v z⟩
  · obtain ⟨m, ⟨o, _, _, ho, _⟩, _⟩ := I.loc
    exact free _ o (fun z => (hch _ z).2.1 rfl) ho I.free
  · obtain ⟨v, o, ho, hd⟩ := I.cell x c e
    exact free c o (fun z => (hch c z).2.2.1 x c e rfl) ho (I.freeC x c e)
  · obtain ⟨e, n, ne, nf, d⟩ := I.pin p hp
    have nch : p.1 ∉ ch := fun z => (hch p.1 z).2.2.2 p hp rfl
    exact ⟨keep p.1 p.2 ne nf nch e n, free p.1 p.2 nch e n, ne, nf, d⟩
theorem Inv.un {t' : Nat} (I : Inv X pins σ H s) (u : Un X.fs [] H H' s.heap h') (hok : HOk X.prog X.w H' h') : Inv X pins σ H' { s with heap := h', toks := t' } := by
  obtain ⟨m, ⟨o, es, ep, ho, r⟩, _⟩ := id I.loc
  obtain ⟨sl, hL⟩ := u.any ho I.free (by simp)
  exact I.step (g' := s.gens) (d' := s.drawn) (ch := []) (fun _ z => nomatch z) (fun b o _ hb _ e n => u.keep b o e n hb (by simp)) (fun b o _ hb _ e n => u.slot b o e n hb (by simp)) (fun b o _ e n => u.free b o e n (by simp)) (fun b o _ e => u.there b o e (by simp)) u.tups u.frzs u.tbls (fun m' hm => by
    obtain ⟨o', es', ep', ho', r'⟩ := hm
    rw [ho] at ho'; cases ho'
    exact ⟨_, es', ep', hL, r'⟩) hok I.bare
theorem Inv.call {g' : Array GenState} {t' : Nat} {d' : Drawn} {ch : List Addr} (I : Inv X pins σ H s) (u : Un (frs X.stack) ch H H' s.heap h') (hok : HOk X.prog X.w H' h') (hg : AllBare g')
    (hch : ∀ b ∈ ch, (b ∈ X.ex ∨ X.s_0.heap.objs.size ≤ b) ∧ b ≠ X.env.locals ∧ (∀ x c, X.env.cells.lookup x = some c → c ≠ b) ∧ ∀ p ∈ X.pn ++ pins, p.1 ≠ b) :
    Inv X pins σ H' { s with heap := h', gens := g', drawn := d', toks := t' } := by
  obtain ⟨m, ⟨o, es, ep, ho, r⟩, _⟩ := id I.loc
  obtain ⟨sl, hL⟩ := u.any ho I.free fun z => (hch _ z).2.1 rfl
  exact I.step (ch := ch) hch (fun b o hL hb hc e n => u.keep b o e n (fun z => (List.mem_cons.mp (I.stkSub b z)).elim hL hb) hc) (fun b o _ _ hc e n => u.any e n hc) (fun b o hc e n => u.free b o e n hc) (fun b o hc e => u.there b o e hc) u.tups u.frzs u.tbls (fun m' hm => by
    obtain ⟨o', es', ep', ho', r'⟩ := hm
    rw [ho] at ho'; cases ho'
    exact ⟨_, es', ep', hL, r'⟩) hok hg
theorem Inv.turned {t' : Nat} {it : Addr} (I : Inv X pins σ H s) (k : ∀ b o, b ≠ it → s.heap.get? b = some o → h'.get? b = some o) (hn : H it = none) (hL : it ≠ X.env.locals)
    (h1 : it ∈ X.ex ∨ X.s_0.heap.objs.size ≤ it) (h2 : ∀ x c, X.env.cells.lookup x = some c → c ≠ it) (h3 : ∀ p ∈ X.pn ++ pins, p.1 ≠ it) : Inv X pins σ H { s with heap := h', toks := t' } := by
  have nit : ∀ b u, H b = some u → b ≠ it := fun b u e z => by rw [z, hn] at e; cases e
  refine I.step (g' := s.gens) (d' := s.drawn) (ch := [it]) (fun b hb => ?_) (fun b o _ _ hc e _ => k b o (fun z => hc (by simp [z])) e) (fun b o _ _ hc e _ => ⟨o.slots, k b o (fun z => hc (by simp [z])) e⟩) (fun _ _ _ _ n => n)
    (fun b o hc e => ⟨o, k b o (fun z => hc (by simp [z])) e⟩) (fun _ _ e => e) (fun _ _ _ e => e) (fun b ps e => ⟨#[], by rw [e]; simp⟩) (fun m hm => ?_) (fun b u e => ?_) I.bare
  · have e : b = it := by simpa using hb
    subst e
    exact ⟨h1, hL, h2, h3⟩
  · obtain ⟨o, es, ep, ho, r⟩ := hm
    exact ⟨o, es, ep, k _ o (Ne.symm hL) ho, r⟩
  · refine (I.hok b u e).stay (fun c v hc q => k c v ?_ q) (fun _ q => q) fun _ _ q => q
    rcases hc with z | z
    · rw [z]; exact nit b u e
    · exact nit c _ z
theorem Inv.tok (I : Inv X pins σ H s) (t : Nat) : Inv X pins σ H { s with toks := t } := I.un (h' := s.heap) (t' := t) Un.refl I.hok
theorem Inv.kept {t' : Nat} (I : Inv X pins σ H s) (k : ∀ b u, s.heap.get? b = some u → h'.get? b = some u) : Inv X pins σ H { s with heap := h', toks := t' } := I.un (Un.kept k) (I.hok.kept k)
theorem Inv.laid {a : Addr} {o : HO} {t' : Nat} (I : Inv X pins σ H s) (k : ∀ b u, s.heap.get? b = some u → h'.get? b = some u) (hp : s.heap.objs.size ≤ a) (new : ObjOk X.prog X.w (upd H a o) h' a o) :
    Inv X pins σ (upd H a o) { s with heap := h', toks := t' } := I.un (Un.laid k hp (I.hok.fresh hp)) (I.hok.laid k hp new)
theorem Inv.write {x e : Addr} {o : HO} {t' : Nat} (I : Inv X pins σ H s) (mu : Mut (H x)) (he : e = x ∨ H e = some (.own x)) (k : ∀ b u, b ≠ e → s.heap.get? b = some u → h'.get? b = some u) (heo : ∃ u, h'.get? e = some u)
    (new : ObjOk X.prog X.w (upd H x o) h' x o) : Inv X pins σ (upd H x o) { s with heap := h', toks := t' } := I.un (Un.write mu he k heo) (I.hok.write mu he k heo new)
theorem Inv.pins_of {pins' : List (Addr × Obj)} (I : Inv X pins σ H s) (h : ∀ p ∈ pins', s.heap.get? p.1 = some p.2 ∧ H p.1 = none ∧ p.1 ≠ X.env.locals ∧ p.1 ∉ X.fs ∧ ∀ v, p.2.data ≠ .cell v) : Inv X pins' σ H s :=
  ⟨I.ok, I.os, I.bare, I.base, I.loc, I.cell, I.free, I.freeC, fun p hp => (List.mem_append.mp hp).elim (fun z => I.pin p (List.mem_append_left _ z)) (h p), I.hok, I.len⟩
theorem nodup_ix {N : List Str} (hN : N.Nodup) {i j : Nat} {x : Str} (a : N[i]? = some x) (b : N[j]? = some x) : i = j := by
  obtain ⟨h1, e1⟩ := List.getElem?_eq_some_iff.mp a
  obtain ⟨h2, e2⟩ := List.getElem?_eq_some_iff.mp b
  exact (List.getElem_inj hN).mp (e1.trans e2.symm)
theorem store_ok2 {M : Model} {A : Around} {E : Value → Shared → Prop} {i : Nat} {x : Str} {v : V} {u : Value} {Q : Unit → Shared → Prop} (I : Inv X pins σ H s) (hN : X.N.Nodup) (hi : X.N[i]? = some x) (hx : Loc X.env.scope x) (r : RelV v u)
    (h : ∀ s', Inv X pins (σ.set i (some v)) H s' → (∃ a, Heap.SameBut a s.heap s'.heap ∧ (a = X.env.locals ∨ X.env.cells.lookup x = some a)) → Q () s') (hf : X.fn x = true ∨ X.env.scope.names.lookup x = some .local := by first | exact .inl rfl | exact .inr rfl | assumption) : wpAny M A (storeName X.env x u) Q E s := by
  obtain ⟨m, hn, hl⟩ := id I.loc
  have hcls : (X.env.scope.kind == .class || (X.env.scope.kind == .module && X.env.locals != X.env.globals)) = false := by rw [I.ok.kind]; rfl
  have hiσ : i < σ.length := by rw [I.len]; exact (List.getElem?_eq_some_iff.mp hi).1
  have cne := I.cne
  have tracked : ∀ {a : Addr} {h' : Heap}, (∃ o, s.heap.get? a = some o ∧ H a = none) → Heap.SameBut a s.heap h' → HOk X.prog X.w H h' := fun {a h'} ha hs b ob e => by
    obtain ⟨_, _, hfree⟩ := ha
    refine (I.hok b ob e).stay (fun c w' hc q => (hs.2 c ?_).trans q) (fun _ q => q) fun _ _ q => q
    rintro rfl
    rcases hc with rfl | hc
    · rw [hfree] at e; cases e
    · rw [hfree] at hc; cases hc
  rcases hx with hk | hk
  · refine wpAny_storeName_local hk hn (fun h' hn' hs => ?_) hcls
    obtain ⟨oL, _, _, hoL, _⟩ := id hn
    refine h _ ⟨I.ok, I.os, I.bare, ⟨fun b o e n hb hx => ?_, fun b o e n hb hx => ?_, I.base.free, fun b o e hx => ?_, I.base.tups, I.base.frzs, I.base.tbls⟩, ⟨_, hn', fun j y v' e1 e2 e3 => ?_⟩, fun y c e => ?_, I.free, I.freeC, fun p hp => ?_, tracked ⟨oL, hoL, I.free⟩ hs, by simpa using I.len⟩ ⟨_, hs, .inl rfl⟩
    · exact (hs.2 b (Nat.ne_of_lt (Nat.lt_of_lt_of_le (Heap.lt_size e) I.ok.above))).trans (I.base.keep b o e n hb hx)
    · obtain ⟨sl, e1⟩ := I.base.slot b o e n hb hx
      exact ⟨sl, (hs.2 b (Nat.ne_of_lt (Nat.lt_of_lt_of_le (Heap.lt_size e) I.ok.above))).trans e1⟩
    · obtain ⟨o', e1⟩ := I.base.there b o e hx
      exact ⟨o', (hs.2 b (Nat.ne_of_lt (Nat.lt_of_lt_of_le (Heap.lt_size e) I.ok.above))).trans e1⟩
    · by_cases hj : j = i
      · subst hj
        rw [hi] at e1; cases e1
        rw [List.getElem?_set_self hiσ] at e2
        cases e2
        exact ⟨u, r, .inl ⟨hk, by simp⟩⟩
      · rw [List.getElem?_set_ne (Ne.symm hj)] at e2
        obtain ⟨u', r', q⟩ := hl j y v' e1 e2 e3
        refine ⟨u', r', ?_⟩
        rcases q with ⟨k, e⟩ | ⟨k, c, e, z⟩
        · refine .inl ⟨k, ?_⟩
          have : y ≠ x := fun e => hj (nodup_ix hN e1 (e ▸ hi))
          simp [this, e]
        · exact .inr ⟨k, c, e, z.sameBut hs (cne y c e)⟩
    · obtain ⟨w', z⟩ := I.cell y c e
      exact ⟨w', z.sameBut hs (cne y c e)⟩
    · obtain ⟨e, n, ne, nf, d⟩ := I.pin p hp
      exact ⟨(hs.2 p.1 ne).trans e, n, ne, nf, d⟩
  · have hfn : X.fn x = true := by
      rcases hf with z | z
      · exact z
      · rw [z] at hk; cases hk
    obtain ⟨c, hc⟩ := I.ok.has x (.inl hk)
    obtain ⟨w', z⟩ := I.cell x c hc
    refine wpAny_storeName_cell I.ok.kind hk hc z (fun h' hc' hs => ?_)
    obtain ⟨oc, hoc, hocd⟩ := id z
    refine h { s with heap := h' } ⟨I.ok, I.os, I.bare, ⟨fun b o e n hb hx => ?_, fun b o e n hb hx => ?_, I.base.free, fun b o e hx => ?_, I.base.tups, I.base.frzs, I.base.tbls⟩, ⟨m, hn.sameBut hs (Ne.symm (cne x c hc)), fun j y v' e1 e2 e3 => ?_⟩, fun y c' e => ?_, I.free, I.freeC, fun p hp => ?_, tracked ⟨oc, hoc, I.freeC x c hc⟩ hs, by simpa using I.len⟩ ⟨c, hs, .inr hc⟩
    · exact (hs.2 b (Nat.ne_of_lt (Nat.lt_of_lt_of_le (Heap.lt_size e) (I.ok.cab x c hfn hc)))).trans (I.base.keep b o e n hb hx)
    · obtain ⟨sl, e1⟩ := I.base.slot b o e n hb hx
      exact ⟨sl, (hs.2 b (Nat.ne_of_lt (Nat.lt_of_lt_of_le (Heap.lt_size e) (I.ok.cab x c hfn hc)))).trans e1⟩
    · obtain ⟨o', e1⟩ := I.base.there b o e hx
      exact ⟨o', (hs.2 b (Nat.ne_of_lt (Nat.lt_of_lt_of_le (Heap.lt_size e) (I.ok.cab x c hfn hc)))).trans e1⟩
    · by_cases hj : j = i
      · subst hj
        rw [hi] at e1; cases e1
        rw [List.getElem?_set_self hiσ] at e2
        cases e2
        exact ⟨u, r, .inr ⟨.inl hk, c, hc, hc'⟩⟩
      · rw [List.getElem?_set_ne (Ne.symm hj)] at e2
        obtain ⟨u', r', q⟩ := hl j y v' e1 e2 e3
        refine ⟨u', r', ?_⟩
        rcases q with q | ⟨k, c', e, z'⟩
        · exact .inl q
        · refine .inr ⟨k, c', e, z'.sameBut hs ?_⟩
          rintro rfl
          exact hj (nodup_ix hN e1 (I.ok.inj _ _ _ e hc ▸ hi))
    · by_cases hcc : c' = c
      · subst hcc; exact ⟨_, hc'⟩
      · obtain ⟨w2, z2⟩ := I.cell y c' e
        exact ⟨w2, z2.sameBut hs hcc⟩
    · obtain ⟨e, n, ne, nf, d⟩ := I.pin p hp
      refine ⟨(hs.2 p.1 ?_).trans e, n, ne, nf, d⟩
      intro q
      rw [q, hoc] at e
      have q' : oc = p.2 := Option.some.inj e
      exact d w' (by rw [← q']; exact hocd)
theorem store_ok {M : Model} {A : Around} {E : Value → Shared → Prop} {i : Nat} {x : Str} {v : V} {u : Value} {Q : Unit → Shared → Prop} (I : Inv X pins σ H s) (hN : X.N.Nodup) (hi : X.N[i]? = some x) (hx : Loc X.env.scope x) (r : RelV v u)
    (h : ∀ s', Inv X pins (σ.set i (some v)) H s' → Q () s') (hf : X.fn x = true ∨ X.env.scope.names.lookup x = some .local := by first | exact .inl rfl | exact .inr rfl | assumption) : wpAny M A (storeName X.env x u) Q E s :=
  store_ok2 I hN hi hx r (fun s' I' _ => h s' I') hf
end
/-! ### the judgements -/
abbrev XK := Value → Option Addr → Hp → Prop
abbrev St := List (Option V)
abbrev VK := V → Hp → Prop
abbrev TE := St → Hp → VK → Prop
abbrev TT := St → Hp → (Bool → Hp → Prop) → Prop
abbrev TA := St → Hp → (List V → Hp → Prop) → Prop
structure Ends where
  nx : St → Hp → Prop
  rt : VK
  bk : St → Hp → Prop := fun _ _ => False
  ct : St → Hp → Prop := fun _ _ => False
abbrev TS := Ends → St → Hp → Prop
def EP (X : Cx) (pins : List (Addr × Obj)) (σ : St) (Q : VK) (u : Value) (s' : Shared) : Prop := ∃ v H', Inv X pins σ H' s' ∧ RelV v u ∧ Q v H'
def TP (X : Cx) (pins : List (Addr × Obj)) (σ : St) (Q : Bool → Hp → Prop) (b : Bool) (s' : Shared) : Prop := ∃ H', Inv X pins σ H' s' ∧ Q b H'
def AP (X : Cx) (pins : List (Addr × Obj)) (σ : St) (Q : List V → Hp → Prop) (us : List Value) (s' : Shared) : Prop := ∃ vs H', Inv X pins σ H' s' ∧ Vals vs us ∧ Q vs H'
def SP (X : Cx) (pins : List (Addr × Obj)) (D : Ends) (f : Flow) (s' : Shared) : Prop :=
  match f with
  | .next => ∃ σ' H', Inv X pins σ' H' s' ∧ D.nx σ' H'
  | .brk => ∃ σ' H', Inv X pins σ' H' s' ∧ D.bk σ' H'
  | .cont => ∃ σ' H', Inv X pins σ' H' s' ∧ D.ct σ' H'
  | .ret u => ∃ v σ' H', Inv X pins σ' H' s' ∧ RelV v u ∧ D.rt v H'
def PE (X : Cx) (e : Expr) (t : TE) : Prop :=
  ∀ (pins : List (Addr × Obj)) (s : Shared) (σ : St) (H : Hp) (Q : VK), Inv X pins σ H s → t σ H Q → wpAny (model X.prog X.w) X.A (eval e X.env) (EP X pins σ Q) X.xe s
def PT (X : Cx) (e : Expr) (t : TT) : Prop :=
  ∀ (pins : List (Addr × Obj)) (s : Shared) (σ : St) (H : Hp) (Q : Bool → Hp → Prop), Inv X pins σ H s → t σ H Q → wpAny (model X.prog X.w) X.A (isTrue e X.env (eval e X.env)) (TP X pins σ Q) X.xe s
def PW (X : Cx) (e : Expr) (t : TT) : Prop :=
  ∀ (whole : Sem Value) (pins : List (Addr × Obj)) (s : Shared) (σ : St) (H : Hp) (Q : Bool → Hp → Prop), Inv X pins σ H s → t σ H Q → wpAny (model X.prog X.w) X.A (isTrue e X.env whole) (TP X pins σ Q) X.xe s
theorem PW.pt {X : Cx} {e : Expr} {t : TT} (h : PW X e t) : PT X e t := h _
def PA (X : Cx) (es : List Expr) (t : TA) : Prop :=
  ∀ (pos : Pos) (pins : List (Addr × Obj)) (s : Shared) (σ : St) (H : Hp) (Q : List V → Hp → Prop), Inv X pins σ H s → t σ H Q → wpAny (model X.prog X.w) X.A (spliced (backTo pos (starEach es X.env))) (AP X pins σ Q) X.xe s
def PS (X : Cx) (st : Stmt) (t : TS) : Prop :=
  ∀ (pins : List (Addr × Obj)) (s : Shared) (σ : St) (H : Hp) (D : Ends), Inv X pins σ H s → t D σ H → wpAny (model X.prog X.w) X.A (exec st X.env) (SP X pins D) X.xe s
def PSs (X : Cx) (st : List Stmt) (t : TS) : Prop :=
  ∀ (pins : List (Addr × Obj)) (s : Shared) (σ : St) (H : Hp) (D : Ends), Inv X pins σ H s → t D σ H → wpAny (model X.prog X.w) X.A (execs st X.env) (SP X pins D) X.xe s
theorem thn {α : Type} {t : Sem α} {Q Q' : α → Shared → Prop} {M : Model} {A : Around} {E : Value → Shared → Prop} {s : Shared} (h : wpAny M A t Q E s) (hQ : ∀ a s, Q a s → Q' a s) : wpAny M A t Q' E s := wpAny_mono h hQ fun _ _ x => x
end L2
namespace L2
open PySem PySem.Spec PyProof.Rows
section
variable {X : Cx}
/-! ### names and constants -/
def tVar (i : Nat) : TE := fun σ H Q => ∃ v, σ[i]? = some (some v) ∧ Q v H
def tC (v : V) : TE := fun _ H Q => Q v H
theorem pe_var {i : Nat} {x : Str} {pos : Pos} (hN : X.N[i]? = some x) (hv : Vis X.env.scope x) (hd : (x == ("__debug__" : Str)) = false := by decide) (hcd : (x == ("__classdict__" : Str)) = false := by decide) : PE X (.Name x pos) (tVar i) := by
  intro pins s σ H Q I h
  obtain ⟨v, e, h⟩ := h
  obtain ⟨m, hn, hl⟩ := I.loc
  obtain ⟨u, r, l⟩ := hl i x v hN e hv
  have fin : EP X pins σ Q u s := ⟨v, H, I, r, h⟩
  rcases l with ⟨hk, hm⟩ | ⟨hk, c, hc, hcell⟩
  · exact wpAny_Name (wpAny_loadName_local I.ok.kind hk hn hm fin) hd
  · rcases hk with hk | hk
    · exact wpAny_Name (wpAny_loadName_cell I.ok.kind hk hc hcell fin) hd
    · exact wpAny_Name (wpAny_loadName_free I.ok.kind hk hc hcell fin hcd) hd
theorem pe_int {i j pos} : PE X (.Constant (.int i) j pos) (tC (.int i)) := fun _ _ _ H _ I h => wpAny_Constant_int ⟨.int i, H, I.tok _, ⟨_, rfl⟩, h⟩
def Gl (X : Cx) (x : Str) : Prop := X.env.kindOf x = some .globalImplicit
theorem ld_glob {E : Value → Shared → Prop} {pins : List (Addr × Obj)} {s : Shared} {σ : St} {H : Hp} {x : Str} {u : Value} {pos : Pos} {Q : Value → Shared → Prop} (I : Inv X pins σ H s) (hg : Gl X x) (hm : X.mg x = some u) (h : Q u s)
    (hd : (x == ("__debug__" : Str)) = false := by decide) : wpAny (model X.prog X.w) X.A (eval (.Name x pos) X.env) Q E s :=
  Calls.Name_function_global I.ok.kind hg (Calls.loadGlobal_global (by rw [I.ok.glob]; exact I.mod.glob.keeps I.bk) hm h) hd
theorem ld_blt {E : Value → Shared → Prop} {pins : List (Addr × Obj)} {s : Shared} {σ : St} {H : Hp} {x : Str} {u : Value} {pos : Pos} {Q : Value → Shared → Prop} (I : Inv X pins σ H s) (hg : Gl X x) (hm : X.mg x = none) (hv : bootBuiltins x = some u) (h : Q u s)
    (hn : x ≠ "__name__" := by decide) (hd : (x == ("__debug__" : Str)) = false := by decide) : wpAny (model X.prog X.w) X.A (eval (.Name x pos) X.env) Q E s := by
  obtain ⟨mb, h1, h2⟩ := I.mod.blt
  exact Calls.Name_function_global I.ok.kind hg (Calls.loadGlobal_builtin (by rw [I.ok.glob]; exact I.mod.glob.keeps I.bk) hm (by rw [I.ok.blt]; exact h1.keeps I.bk) ((h2 x hn).trans hv) h) hd
theorem pe_glob {x : Str} {v : V} {u : Value} {pos : Pos} (hg : Gl X x) (hm : X.mg x = some u) (r : RelV v u) (hd : (x == ("__debug__" : Str)) = false := by decide) : PE X (.Name x pos) (tC v) :=
  fun _ _ _ H _ I h => ld_glob I hg hm ⟨v, H, I, r, h⟩ hd
/-! ### arithmetic -/
def t2I (ta tb : TE) (k : Int → Int → Hp → Prop) : St → Hp → Prop := fun σ H => ta σ H fun x H1 => tb σ H1 fun y H2 => ∃ i j, x = .int i ∧ y = .int j ∧ k i j H2
def tAdd (ta tb : TE) : TE := fun σ H Q => t2I ta tb (fun i j H2 => Q (.int (i + j)) H2) σ H
def tSub (ta tb : TE) : TE := fun σ H Q => t2I ta tb (fun i j H2 => Q (.int (i - j)) H2) σ H
def tMul (ta tb : TE) : TE := fun σ H Q => t2I ta tb (fun i j H2 => (-(2 ^ 64) < i ∧ i < 2 ^ 64) ∧ Q (.int (i * j)) H2) σ H
variable {a b : Expr} {ta tb : TE} {pos : Pos}
/-! ### comparisons -/
def PC (X : Cx) (op : CmpOp) (a b : Expr) (t : TE) : Prop :=
  ∀ (pins : List (Addr × Obj)) (s : Shared) (σ : St) (H : Hp) (Q : VK), Inv X pins σ H s → t σ H Q →
    wpAny (model X.prog X.w) X.A (eval a X.env) (fun v s₁ => wpAny (model X.prog X.w) X.A (eval b X.env) (fun u s₂ => wpAny (model X.prog X.w) X.A (compareOp op v u) (EP X pins σ Q) X.xe s₂) X.xe s₁) X.xe s
def tCmp (p : Int → Int → Bool) (ta tb : TE) : TE := fun σ H Q => t2I ta tb (fun i j H2 => Q (.bl (p i j)) H2) σ H
abbrev tLt : TE → TE → TE := tCmp fun i j => decide (i < j)
abbrev tLe : TE → TE → TE := tCmp fun i j => decide (i ≤ j)
abbrev tGt : TE → TE → TE := tCmp fun i j => decide (j < i)
abbrev tGe : TE → TE → TE := tCmp fun i j => decide (j ≤ i)
abbrev tEqI : TE → TE → TE := tCmp fun i j => decide (i = j)
abbrev tNeI : TE → TE → TE := tCmp fun i j => !decide (i = j)
def tIsN (ta : TE) : TE := fun σ H Q => ta σ H fun x H1 => Q (.bl (decide (x = .non))) H1
def tNotN (ta : TE) : TE := fun σ H Q => ta σ H fun x H1 => Q (.bl (!decide (x = .non))) H1
def tB (t : TE) : TT := fun σ H Q => t σ H fun x H1 => ∃ c, x = .bl c ∧ Q c H1
/-! ### and, or, not -/
variable {tA tB' : TT} {rest : List Expr}
def tAnd (t u : TT) : TT := fun σ H Q => t σ H fun c H1 => if c = true then u σ H1 Q else Q false H1
def tOr (t u : TT) : TT := fun σ H Q => t σ H fun c H1 => if c = true then Q true H1 else u σ H1 Q
def tNot (t : TT) : TT := fun σ H Q => t σ H fun c H1 => Q (!c) H1
theorem pw_and1 (ha : PT X a tA) : PW X (.BoolOp .And [a] pos) tA := by
  intro wh pins s σ H Q I h
  refine isTrue_and (thn (ha pins s σ H Q I h) fun c s1 e => ?_)
  cases c with
  | true => exact isTrue_and_nil e
  | false => exact e
theorem pw_or1 (ha : PT X a tA) : PW X (.BoolOp .Or [a] pos) tA := by
  intro wh pins s σ H Q I h
  refine isTrue_or (thn (ha pins s σ H Q I h) fun c s1 e => ?_)
  cases c with
  | false => exact isTrue_or_nil e
  | true => exact e
theorem pw_and (ha : PT X a tA) (hb : PW X (.BoolOp .And (b :: rest) pos) tB') : PW X (.BoolOp .And (a :: b :: rest) pos) (tAnd tA tB') := by
  intro wh pins s σ H Q I h
  refine isTrue_and (thn (ha pins s σ H _ I h) fun c s1 ⟨H1, I1, q1⟩ => ?_)
  cases c with
  | true => exact hb wh pins s1 σ H1 Q I1 q1
  | false => exact ⟨H1, I1, q1⟩
theorem pw_or (ha : PT X a tA) (hb : PW X (.BoolOp .Or (b :: rest) pos) tB') : PW X (.BoolOp .Or (a :: b :: rest) pos) (tOr tA tB') := by
  intro wh pins s σ H Q I h
  refine isTrue_or (thn (ha pins s σ H _ I h) fun c s1 ⟨H1, I1, q1⟩ => ?_)
  cases c with
  | true => exact ⟨H1, I1, q1⟩
  | false => exact hb wh pins s1 σ H1 Q I1 q1
def tAndV (ta tb : TE) : TE := fun σ H Q => ta σ H fun x H1 => ∃ c, x = .bl c ∧ if c = true then tb σ H1 Q else Q (.bl false) H1
def tOrV (ta tb : TE) : TE := fun σ H Q => ta σ H fun x H1 => ∃ c, x = .bl c ∧ if c = true then Q (.bl true) H1 else tb σ H1 Q
def tNotV (ta : TE) : TE := fun σ H Q => ta σ H fun x H1 => ∃ c, x = .bl c ∧ Q (.bl (!c)) H1
def tIf (t : TT) (ta tb : TE) : TE := fun σ H Q => t σ H fun c H1 => if c = true then ta σ H1 Q else tb σ H1 Q
theorem pe_ifExp {c : Expr} (hc : PT X c tA) (ha : PE X a ta) (hb : PE X b tb) : PE X (.IfExp c a b pos) (tIf tA ta tb) := by
  intro pins s σ H Q I h
  refine wpAny_IfExp (thn (hc pins s σ H _ I h) fun d s1 ⟨H1, I1, q1⟩ => ?_)
  cases d with
  | true => exact ha pins s1 σ H1 Q I1 q1
  | false => exact hb pins s1 σ H1 Q I1 q1
end
end L2
namespace L2
open PySem PySem.Spec PyProof.Rows
/-! ### a list, a tuple that is read: tracked, frozen, or an object of the module -/
def SqL (K : PySem.W.Frag) (H : Hp) (a : Addr) (xs : List V) : Prop :=
  Rd H a (.lst xs) ∨
    ∃ (o : Obj) (its : Array Value) (n : Nat), K.lookup a = some o ∧ o.cls = .type "list" ∧ o.dict = none ∧ o.data = .seq its n ∧ its.size ≤ sizeLine ∧ Vals xs its.toList
def SqT (K : PySem.W.Frag) (H : Hp) (a : Addr) (xs : List V) : Prop :=
  Rd H a (.tup xs) ∨
    ∃ (o : Obj) (its : Array Value) (n : Nat), K.lookup a = some o ∧ o.cls = .type "tuple" ∧ o.data = .seq its n ∧ its.size ≤ sizeLine ∧ Vals xs its.toList
def absV : Value → Option V
  | .none => some .non
  | .bool b => some (.bl b)
  | .int i _ => some (.int i)
  | .str x _ => some (.str x)
  | .bytes b _ => some (.byt b)
  | .float b _ => some (.flt b)
  | .ref a => some (.ref a)
  | .type n => some (.ty n)
  | _ => none
theorem RelV.abs {x : V} {u : Value} (r : RelV x u) : absV u = some x := by
  cases x with
  | non => cases r; rfl
  | bl _ => cases r; rfl
  | int _ => obtain ⟨t, rfl⟩ := r; rfl
  | str _ => obtain ⟨t, rfl⟩ := r; rfl
  | byt _ => obtain ⟨t, rfl⟩ := r; rfl
  | flt _ => obtain ⟨t, rfl⟩ := r; rfl
  | ref _ => cases r; rfl
  | ty _ => cases r; rfl
theorem RelV.inj {x y : V} {u : Value} (r : RelV x u) (q : RelV y u) : x = y := Option.some.inj (r.abs.symm.trans q.abs)
theorem Vals.inj : ∀ {xs ys : List V} {us : List Value}, Vals xs us → Vals ys us → xs = ys
  | _, _, _, .nil, .nil => rfl
  | _, _, _, .cons r t, .cons r' t' => by rw [r.inj r', Vals.inj t t']
section
variable {X : Cx} {pins : List (Addr × Obj)} {σ : St} {H : Hp} {s : Shared} {a : Addr} {xs ys : List V}
theorem SqL.of {K : PySem.W.Frag} (h : H a = some (.lst xs)) : SqL K H a xs := .inl (.inl h)
theorem SqT.of {K : PySem.W.Frag} (h : H a = some (.tup xs)) : SqT K H a xs := .inl (.inl h)
theorem Inv.list (I : Inv X pins σ H s) (h : SqL X.K H a xs) : ∃ its : List Value, Vals xs its ∧ PlainL s.heap a its.toArray ∧ xs.length ≤ sizeLine := by
  rcases h with h | ⟨o, its, n, hk, hc, hd, hs, hz, r⟩
  · obtain ⟨z, its, n, r, e⟩ := h.ok I.hok
    exact ⟨its, r, ⟨_, n, e, rfl, rfl, rfl⟩, z⟩
  · refine ⟨its.toList, r, ⟨o, n, I.kIn a o hk, hc, hd, by simpa using hs⟩, ?_⟩
    have e := r.length
    simp only [Array.length_toList] at e
    omega
theorem Inv.tuple (I : Inv X pins σ H s) (h : SqT X.K H a xs) : ∃ its : List Value, Vals xs its ∧ IsTup s.heap a its.toArray ∧ xs.length ≤ sizeLine := by
  rcases h with h | ⟨o, its, n, hk, hc, hs, hz, r⟩
  · obtain ⟨z, its, r, p⟩ := h.ok I.hok
    exact ⟨its, r, p, z⟩
  · refine ⟨its.toList, r, ⟨o, I.kIn a o hk, hc, n, by simpa using hs⟩, ?_⟩
    have e := r.length
    simp only [Array.length_toList] at e
    omega
theorem Inv.list_inj (I : Inv X pins σ H s) (h : SqL X.K H a xs) (h' : SqL X.K H a ys) : xs = ys := by
  obtain ⟨its, r, ⟨o, n, e, _, _, d⟩, _⟩ := I.list h
  obtain ⟨its', r', ⟨o', n', e', _, _, d'⟩, _⟩ := I.list h'
  rw [e] at e'; cases e'
  rw [d] at d'
  injection d' with d1 _
  have : its = its' := by simpa using congrArg Array.toList d1
  subst this
  exact r.inj r'
end
/-! ### another wish about exceptions -/
abbrev Cx.wish (X : Cx) (E : Value → Shared → Prop) : Cx := { X with xe := E }
abbrev Cx.nox (X : Cx) : Cx := X.wish fun _ _ => False
theorem Cx.Ok.wish {X : Cx} (ok : X.Ok) (E : Value → Shared → Prop) : (X.wish E).Ok :=
  ⟨ok.mod, ok.kind, ok.glob, ok.blt, ok.above, ok.inj, ok.has, ok.cab, ok.hd, ok.frames, ok.stk, ok.exf, ok.bs, ok.bsz, ok.noex, ok.exfs, ok.funs, ok.frf⟩
theorem Cx.Ok.unwish {X : Cx} {E : Value → Shared → Prop} (ok : (X.wish E).Ok) : X.Ok :=
  ⟨ok.mod, ok.kind, ok.glob, ok.blt, ok.above, ok.inj, ok.has, ok.cab, ok.hd, ok.frames, ok.stk, ok.exf, ok.bs, ok.bsz, ok.noex, ok.exfs, ok.funs, ok.frf⟩
section
variable {X : Cx} {pins : List (Addr × Obj)} {σ : St} {H : Hp} {s : Shared} {E : Value → Shared → Prop}
theorem Inv.wish (I : Inv X pins σ H s) (E : Value → Shared → Prop) : Inv (X.wish E) pins σ H s := ⟨I.ok.wish E, I.os, I.bare, I.base, I.loc, I.cell, I.free, I.freeC, I.pin, I.hok, I.len⟩
theorem Inv.unwish (I : Inv (X.wish E) pins σ H s) : Inv X pins σ H s := ⟨I.ok.unwish, I.os, I.bare, I.base, I.loc, I.cell, I.free, I.freeC, I.pin, I.hok, I.len⟩
end
/-! ### blocks and small statements -/
section
variable {X : Cx} {st : Stmt} {rest : List Stmt} {t u : TS} {e : Expr} {te : TE} {pos : Pos}
def tNext : TS := fun D σ H => D.nx σ H
def tSeq (t u : TS) : TS := fun D σ H => t { D with nx := u D } σ H
theorem pss_nil : PSs X [] tNext := fun _ _ σ H _ I h => wpAny_execs_nil ⟨σ, H, I, h⟩
theorem pss_cons (h1 : PS X st t) (h2 : PSs X rest u) : PSs X (st :: rest) (tSeq t u) := by
  intro pins s σ H D I h
  refine wpAny_execs_cons (thn (h1 pins s σ H { D with nx := u D } I h) fun f s1 q => ?_)
  cases f with
  | next =>
    obtain ⟨σ', H', I', q⟩ := q
    exact h2 pins s1 σ' H' D I' q
  | ret v => exact q
  | brk => exact q
  | cont => exact q
theorem pss_one (h1 : PS X st t) : PSs X [st] t := by
  intro pins s σ H D I h
  refine wpAny_execs_cons (thn (h1 pins s σ H D I h) fun f s1 q => ?_)
  cases f with
  | next => exact wpAny_execs_nil q
  | ret v => exact q
  | brk => exact q
  | cont => exact q
def tBreak : TS := fun D σ H => D.bk σ H
def tCont : TS := fun D σ H => D.ct σ H
theorem Inv.quiet {pins : List (Addr × Obj)} {σ : St} {H : Hp} {s : Shared} (I : Inv X pins σ H s) : interactive X.env = false := by simp [interactive, I.ok.kind]
def tDrop (te : TE) : TS := fun D σ H => te σ H fun _ H1 => D.nx σ H1
theorem ps_expr (he : PE X e te) (hs : swapsWith e none pos.line X.env = pure false := by rfl) : PS X (.Expr e pos) (tDrop te) := by
  intro pins s σ H D I h
  exact wpAny_Expr_any (thn (he pins s σ H _ I h) fun v s1 ⟨x, H1, I1, r1, q1⟩ => ⟨σ, H1, I1, q1⟩) I.quiet hs
def tRet (te : TE) : TS := fun D σ H => te σ H D.rt
theorem ps_ret (he : PE X e te) : PS X (.Return (some e) pos) (tRet te) := by
  intro pins s σ H D I h
  exact wpAny_Return_some (thn (he pins s σ H _ I h) fun v s1 ⟨x, H1, I1, r1, q1⟩ => ⟨x, σ, H1, I1, r1, q1⟩)
def tRetN : TS := fun D _ H => D.rt .non H
def tIfS (c : TT) (t u : TS) : TS := fun D σ H => c σ H fun b H1 => if b = true then t D σ H1 else u D σ H1
theorem ps_if {c : Expr} {a b : List Stmt} {tc : TT} (hc : PT X c tc) (ha : PSs X a t) (hb : PSs X b u) : PS X (.If c a b pos) (tIfS tc t u) := by
  intro pins s σ H D I h
  refine wpAny_If (thn (hc pins s σ H _ I h) fun d s1 ⟨H1, I1, q1⟩ => ?_)
  cases d with
  | true => exact ha pins s1 σ H1 D I1 q1
  | false => exact hb pins s1 σ H1 D I1 q1
def tNever : TS := fun _ _ _ => False
end
/-! ### targets -/
abbrev TG := V → St → Hp → (St → Hp → Prop) → Prop
abbrev TGs := List V → St → Hp → (St → Hp → Prop) → Prop
def PG (X : Cx) (target : Expr) (t : TG) : Prop :=
  ∀ (pins : List (Addr × Obj)) (s : Shared) (σ : St) (H : Hp) (v : V) (u : Value) (Q : St → Hp → Prop), Inv X pins σ H s → RelV v u → t v σ H Q →
    wpAny (model X.prog X.w) X.A (assign target X.env u) (fun _ s' => ∃ σ' H', Inv X pins σ' H' s' ∧ Q σ' H') X.xe s
def PGs (X : Cx) (ts : List Expr) (t : TGs) : Prop :=
  ∀ (pins : List (Addr × Obj)) (s : Shared) (σ : St) (H : Hp) (vs : List V) (us : List Value) (Q : St → Hp → Prop), Inv X pins σ H s → Vals vs us → t vs σ H Q →
    wpAny (model X.prog X.w) X.A (assignInOrder ((assignEach ts X.env).map (·.2)) us) (fun _ s' => ∃ σ' H', Inv X pins σ' H' s' ∧ Q σ' H') X.xe s
abbrev TSet := V → V → V → Hp → (Hp → Prop) → Prop
def PSet (X : Cx) (t : TSet) : Prop :=
  ∀ (pins : List (Addr × Obj)) (s : Shared) (σ : St) (H : Hp) (o i v : V) (ov iv u : Value) (Q : Hp → Prop), Inv X pins σ H s → RelV o ov → RelV i iv → RelV v u → t o i v H Q →
    wpAny (model X.prog X.w) X.A (setItem ov iv u) (fun _ s' => ∃ H', Inv X pins σ H' s' ∧ Q H') X.xe s
abbrev TIp := V → V → Hp → VK → Prop
def PIp (X : Cx) (op : Operator) (t : TIp) : Prop :=
  ∀ (pins : List (Addr × Obj)) (s : Shared) (σ : St) (H : Hp) (x y : V) (v u : Value) (Q : VK), Inv X pins σ H s → RelV x v → RelV y u → t x y H Q →
    wpAny (model X.prog X.w) X.A (inplaceOp op v u) (EP X pins σ Q) X.xe s
section
variable {X : Cx} {pos : Pos}
def gName (i : Nat) : TG := fun v σ H Q => Q (σ.set i (some v)) H
theorem pg_name {i : Nat} {x : Str} (hN : X.N.Nodup) (hi : X.N[i]? = some x) (hx : Loc X.env.scope x) (hf : X.fn x = true ∨ X.env.scope.names.lookup x = some .local := by first | exact .inl rfl | exact .inr rfl | assumption) : PG X (.Name x pos) (gName i) := by
  intro pins s σ H v u Q I r h
  exact wpAny_assign_Name (store_ok I hN hi hx r (fun s' I' => ⟨_, H, I', h⟩) hf)
def gNil : TGs := fun vs σ H Q => vs = [] ∧ Q σ H
def gCons (t : TG) (u : TGs) : TGs := fun vs σ H Q => ∃ v r, vs = v :: r ∧ t v σ H fun σ' H' => u r σ' H' Q
theorem pgs_nil : PGs X [] gNil := by
  intro pins s σ H vs us Q I r h
  obtain ⟨e, h⟩ := h
  subst e
  cases r
  exact assignInOrder_nil ⟨σ, H, I, h⟩
theorem pgs_cons {e : Expr} {es : List Expr} {t : TG} {u : TGs} (h1 : PG X e t) (h2 : PGs X es u)
    (hs : (assignEach (e :: es) X.env).map (·.2) = assign e X.env :: (assignEach es X.env).map (·.2) := by rfl) : PGs X (e :: es) (gCons t u) := by
  intro pins s σ H vs us Q I r h
  obtain ⟨v, vr, e1, h⟩ := h
  subst e1
  cases r with
  | cons r rr =>
    rw [hs]
    refine assignInOrder_cons (thn (h1 pins s σ H _ _ _ I r h) fun _ s1 ⟨σ1, H1, I1, q1⟩ => ?_)
    exact h2 pins s1 σ1 H1 _ _ Q I1 rr q1
def gTup (K : PySem.W.Frag) (n : Nat) (t : TGs) : TG := fun v σ H Q => ∃ a xs, v = .ref a ∧ SqT K H a xs ∧ xs.length = n ∧ t xs σ H Q
theorem pg_tup {es : List Expr} {k : Nat} {t : TGs} {n : Nat} (hc : X.calm = true) (h : PGs X es t)
    (hn : (assignEach es X.env).length = n := by rfl) (hst : (assignEach es X.env).findIdx? (·.1) = none := by rfl) : PG X (.Tuple es k pos) (gTup X.K n t) := by
  intro pins s σ H v u Q I r hw
  obtain ⟨a, xs, e1, hq, hl, hw⟩ := hw
  subst e1
  cases r
  obtain ⟨its, rv, ht, hz⟩ := I.tuple hq
  refine assign_Tuple_tuple (I.ok.hd hc) ht (by simp [hn, ← hl, rv.length]) hst fun h' hx => ?_
  have I1 : Inv X pins σ H { s with heap := h' } := I.kept (t' := s.toks) fun b o e => hx b o (Nat.ne_of_lt (Heap.lt_size e)) e
  exact h pins _ σ H xs _ Q I1 (by simpa using rv) hw
def gSub (to ti : TE) (t : TSet) : TG := fun v σ H Q => to σ H fun o H1 => ti σ H1 fun i H2 => t o i v H2 fun H3 => Q σ H3
def tAsg (te : TE) (g : TG) : TS := fun D σ H => te σ H fun x H1 => g x σ H1 D.nx
theorem ps_set {i : Nat} {x : Str} {e : Expr} {te : TE} {pos' : Pos} (hN : X.N.Nodup) (hi : X.N[i]? = some x) (hx : Loc X.env.scope x) (he : PE X e te) (hs : swapsWith e (some (.Name x pos')) pos.line X.env = pure false := by rfl) (hf : X.fn x = true ∨ X.env.scope.names.lookup x = some .local := by first | exact .inl rfl | exact .inr rfl | assumption) :
    PS X (.Assign [.Name x pos'] e pos) (tAsg te (gName i)) := by
  intro pins s σ H D I h
  refine wpAny_Assign_Name (thn (he pins s σ H _ I h) fun v s1 ⟨y, H1, I1, r1, q1⟩ => ?_) hs
  exact store_ok I1 hN hi hx r1 (fun s2 I2 => ⟨_, H1, I2, q1⟩) hf
def tPar (i j : Nat) (ta : TA) : TS := fun D σ H => ta σ H fun vs H1 => ∃ v w, vs = [v, w] ∧ D.nx ((σ.set i (some v)).set j (some w)) H1
def tAug (i : Nat) (te : TE) (ti : TIp) : TS := fun D σ H => ∃ x, σ[i]? = some (some x) ∧ te σ H fun y H1 => ti x y H1 fun z H2 => D.nx (σ.set i (some z)) H2
def tAugS (to ti te : TE) (tget : V → V → Hp → VK → Prop) (tip : TIp) (tset : TSet) : TS := fun D σ H => to σ H fun o H1 => ti σ H1 fun i H2 => tget o i H2 fun x H3 => te σ H3 fun y H4 => tip x y H4 fun z H5 => tset o i z H5 fun H6 => D.nx σ H6
def PGet (X : Cx) (t : V → V → Hp → VK → Prop) : Prop :=
  ∀ (pins : List (Addr × Obj)) (s : Shared) (σ : St) (H : Hp) (o i : V) (ov iv : Value) (Q : VK), Inv X pins σ H s → RelV o ov → RelV i iv → t o i H Q →
    wpAny (model X.prog X.w) X.A (getItem ov iv) (EP X pins σ Q) X.xe s
def ipI (f : Int → Int → Int) : TIp := fun x y H Q => ∃ i j, x = .int i ∧ y = .int j ∧ Q (.int (f i j)) H
end
/-! ### while -/
section
variable {X : Cx} {pos : Pos}
def tWhile (c : TT) (tb : TS) : TS := fun D σ H => ∃ W : Nat → St → Hp → Prop, (∃ m, W m σ H) ∧ ∀ m σ H, W m σ H →
  c σ H fun b H1 => if b = true then ∃ N : St → Hp → Prop, (∀ σ' H', N σ' H' → ∃ m', m' < m ∧ W m' σ' H') ∧ tb { D with nx := N, ct := N, bk := D.nx } σ H1 else D.nx σ H1
end
/-! ### what a loop or a comprehension walks -/
structure It where
  go : Nat → Hp → Prop
  yld : Nat → Hp → V → Hp → Prop
  stop : Nat → Hp → Prop
def FpOk (X : Cx) (pins : List (Addr × Obj)) (H : Hp) (b : Addr) : Prop :=
  H b = none ∧ b ≠ X.env.locals ∧ b ∉ X.fs ∧ (b ∈ X.ex ∨ X.s_0.heap.objs.size ≤ b) ∧ (∀ x c, X.env.cells.lookup x = some c → c ≠ b) ∧ ∀ p ∈ X.pn ++ pins, p.1 ≠ b
theorem Inv.fpOk {X : Cx} {pins : List (Addr × Obj)} {σ : St} {H H' : Hp} {s : Shared} {b : Addr} (I : Inv X pins σ H s) (hb : s.heap.objs.size ≤ b) (hn : H' b = none) : FpOk X pins H' b := by
  refine ⟨hn, Nat.ne_of_gt (Nat.lt_of_lt_of_le I.lt hb), I.nofs hb, .inr (Nat.le_trans I.sz hb), fun x c e z => ?_, fun p hp z => ?_⟩
  · obtain ⟨v, q⟩ := I.cell x c e
    exact absurd (Nat.lt_of_lt_of_le q.lt (by rw [z]; exact hb)) (Nat.lt_irrefl _)
  · exact absurd (Nat.lt_of_lt_of_le (Heap.lt_size (I.pin p hp).1) (by rw [z]; exact hb)) (Nat.lt_irrefl _)
structure Turn (P : Program) (w : World) (K : PySem.W.Frag) (tg : Expr) (J : It) (fp : List Addr) (it : Addr) (tn : Nat → Heap → Prop) : Prop where
  mem : it ∈ fp
  obj : ∀ i h, tn i h → ∀ b ∈ fp, ∃ o, h.get? b = some o ∧ ∀ v, o.data ≠ .cell v
  keep : ∀ i h h', tn i h → (∀ b ∈ fp, ∀ o, h.get? b = some o → h'.get? b = some o) → tn i h'
  item : ∀ (X : Cx), X.prog = P → X.w = w → X.K = K → X.calm = true → ∀ (i : Nat) (pins : List (Addr × Obj)) (s : Shared) (σ : St) (H : Hp) (E : Value → Shared → Prop), Inv X pins σ H s → (∀ b ∈ fp, FpOk X pins H b) → tn i s.heap → J.go i H →
    wpAny (model P w) X.A (pyNext (.ref it)) (fun r s1 => ∃ u, r = some u ∧
      wpAny (model P w) X.A (letOwnedTupleGo tg (.ref it) u) (fun _ s2 => ∃ x H', Inv X pins σ H' s2 ∧ RelV x u ∧ J.yld i H x H' ∧ tn (i + 1) s2.heap ∧ ∀ b ∈ fp, H' b = none) E s1) E s
  done : ∀ (X : Cx), X.prog = P → X.w = w → X.K = K → X.calm = true → ∀ (i : Nat) (pins : List (Addr × Obj)) (s : Shared) (σ : St) (H : Hp) (E : Value → Shared → Prop), Inv X pins σ H s → (∀ b ∈ fp, FpOk X pins H b) → tn i s.heap → J.stop i H →
    wpAny (model P w) X.A (pyNext (.ref it)) (fun r s1 => r = none ∧ Inv X pins σ H s1) E s
  self : ∀ (A : Around) (i : Nat) (s : Shared) (Q : Value → Shared → Prop) (E : Value → Shared → Prop), tn i s.heap → Q (.ref it) s → wpAny (model P w) A (pyIter (.ref it)) Q E s
abbrev TI := St → Hp → (It → Hp → Prop) → Prop
def PIE (X : Cx) (pins : List (Addr × Obj)) (σ : St) (tg : Expr) (R : It → Hp → Prop) (itv : Value) (s2 : Shared) : Prop :=
  ∃ (it : Addr) (fp : List Addr) (tn : Nat → Heap → Prop) (J : It) (H' : Hp), itv = .ref it ∧ Inv X pins σ H' s2 ∧ Turn X.prog X.w X.K tg J fp it tn ∧ tn 0 s2.heap ∧ (∀ b ∈ fp, FpOk X pins H' b) ∧ R J H'
def PI (X : Cx) (tg iter : Expr) (wi : TI) : Prop :=
  ∀ (pins : List (Addr × Obj)) (s : Shared) (σ : St) (H : Hp) (R : It → Hp → Prop), Inv X pins σ H s → wi σ H R →
    wpAny (model X.prog X.w) X.A (eval iter X.env) (fun v s1 => wpAny (model X.prog X.w) X.A (pyIter v) (PIE X pins σ tg R) X.xe s1) X.xe s
theorem go_of {M : Model} {A : Around} {E : Value → Shared → Prop} {s : Shared} {tg : Expr} {it : Addr} {u : Value} {o : Obj} {n : String} {vs : Array Value} {Q : Unit → Shared → Prop} (ho : s.heap.get? it = some o) (hc : o.cls = .type n) (hd : o.data = .fields vs)
    (hn : ["enumerate", "zip", "dict_itemiterator", "dict_reverseitemiterator", "odict_iterator", "itertools.zip_longest", "itertools.pairwise"].contains n = false) (hQ : Q () s) : wpAny M A (letOwnedTupleGo tg (.ref it) u) Q E s := by
  unfold letOwnedTupleGo
  cases tg <;> first
    | exact wpAny_pure hQ
    | (cases u <;> first
        | exact wpAny_pure hQ
        | (refine wpAny_bind (wpAny_load ho ?_)
           rw [hc, hd]
           show wpAny M A (if (["enumerate", "zip", "dict_itemiterator", "dict_reverseitemiterator", "odict_iterator", "itertools.zip_longest", "itertools.pairwise"].contains n && vs[0]? == some (rawInt _)) = true then _ else _) Q E s
           rw [if_neg (by intro h; rw [hn, Bool.false_and] at h; cases h)]
           exact wpAny_pure hQ))
def Itl (K : PySem.W.Frag) (a : Addr) : It :=
  ⟨fun i H => ∃ xs x, SqL K H a xs ∧ xs[i]? = some x, fun i H x H' => H' = H ∧ ∀ xs, SqL K H a xs → xs[i]? = some x, fun i H => ∃ xs, SqL K H a xs ∧ xs.length ≤ i⟩
def Itt (K : PySem.W.Frag) (a : Addr) : It :=
  ⟨fun i H => ∃ xs x, SqT K H a xs ∧ xs[i]? = some x, fun i H x H' => H' = H ∧ ∀ xs, SqT K H a xs → xs[i]? = some x, fun i H => ∃ xs, SqT K H a xs ∧ xs.length ≤ i⟩
def Itr (lo : Int) (n : Nat) : It := ⟨fun i _ => i < n, fun i H x H' => H' = H ∧ x = .int (lo + i), fun i _ => n ≤ i⟩
theorem turn_list {P : Program} {w : World} {K : PySem.W.Frag} {tg : Expr} (a it : Addr) : Turn P w K tg (Itl K a) [it] it (fun i h => h.IsListIter it a i) where
  mem := by simp
  obj := fun i h st b hb => by
    have e : b = it := by simpa using hb
    subst e
    obtain ⟨o, e, c, d⟩ := st
    exact ⟨o, e, fun v z => by rw [d] at z; cases z⟩
  keep := fun i h h' st k => st.at fun o e => k it (by simp) o e
  item := by
    intro X hP hw hK hc i pins s σ H E I hf st hg
    subst hP hw hK
    obtain ⟨xs, x, hq, hx⟩ := hg
    obtain ⟨its, rv, p, hz⟩ := I.list hq
    obtain ⟨u, hu, ru⟩ := rv.get hx
    obtain ⟨f0, f1, f2, f3, f4, f5⟩ := hf it (by simp)
    refine wpAny_pyNext_list_item st p.isList (x := u) (by simpa using hu) fun h' st' sb => ?_
    have I1 : Inv X pins σ H { s with heap := h' } := I.turned (t' := s.toks) (fun b o hb e => (sb.2 b hb).trans e) f0 f1 f3 f4 f5
    obtain ⟨o, e, c, d⟩ := id st'
    exact ⟨u, rfl, go_of (s := { s with heap := h' }) e c d (by decide) ⟨x, H, I1, ru, ⟨rfl, fun ys hy => by rw [I.list_inj hy hq]; exact hx⟩, st', fun b hb => (hf b hb).1⟩⟩
  done := by
    intro X hP hw hK hc i pins s σ H E I hf st hg
    subst hP hw hK
    obtain ⟨xs, hq, hx⟩ := hg
    obtain ⟨its, rv, p, hz⟩ := I.list hq
    obtain ⟨f0, f1, f2, f3, f4, f5⟩ := hf it (by simp)
    have hl := rv.length
    exact wpAny_pyNext_list_end (I.ok.hd hc) st p.isList (by simp; omega) fun h' eb => ⟨rfl, I.turned (t' := s.toks) (fun b o hb e => eb b o hb e) f0 f1 f3 f4 f5⟩
  self := fun _ _ _ _ _ st h => wpAny_pyIter_listiter st h
end L2
namespace L2
open PySem PySem.Spec PyProof.Rows
section
variable {X : Cx} {tg : Expr}
def iList (K : PySem.W.Frag) (tl : TE) : TI := fun σ H R => tl σ H fun x H1 => ∃ a, x = .ref a ∧ (∃ xs, SqL K H1 a xs) ∧ R (Itl K a) H1
def iTup (K : PySem.W.Frag) (tl : TE) : TI := fun σ H R => tl σ H fun x H1 => ∃ a, x = .ref a ∧ (∃ xs, SqT K H1 a xs) ∧ R (Itt K a) H1
theorem pi_list {l : Expr} {tl : TE} (hl : PE X l tl) : PI X tg l (iList X.K tl) := by
  intro pins s σ H R I h
  refine thn (hl pins s σ H _ I h) fun v s1 ⟨x, H1, I1, r1, q1⟩ => ?_
  obtain ⟨a, e, ⟨xs, hq⟩, q⟩ := q1
  subst e
  cases r1
  obtain ⟨its, rv, p, hz⟩ := I1.list hq
  refine wpAny_pyIter_list p.isList ?_
  refine ⟨s1.heap.objs.size, [s1.heap.objs.size], _, _, H1, rfl, I1.kept (t' := s1.toks) fun b o e => Heap.get?_push_of_some _ e, turn_list a _, ⟨_, Heap.get?_push_size _ rfl, rfl, rfl⟩, fun b hb => ?_, q⟩
  have e : b = s1.heap.objs.size := by simpa using hb
  subst e
  exact I1.fpOk (Nat.le_refl _) (I1.hok.fresh (Nat.le_refl _))
def iRng1 (ta : TA) : TI := fun σ H R => ta σ H fun vs H1 => ∃ j : Int, vs = [.int j] ∧ -(2 ^ 62) ≤ j ∧ j < 2 ^ 62 ∧ R (Itr 0 j.toNat) H1
def iRng2 (ta : TA) : TI := fun σ H R => ta σ H fun vs H1 => ∃ i j : Int, vs = [.int i, .int j] ∧ (-(2 ^ 62) ≤ i ∧ i < 2 ^ 62 ∧ -(2 ^ 62) ≤ j ∧ j < 2 ^ 62) ∧ R (Itr i (j - i).toNat) H1
/-! ### for -/
def tFor (wi : TI) (g : TG) (tb : TS) : TS := fun D σ H => wi σ H fun J H1 => ∃ W : Nat → Nat → St → Hp → Prop, (∃ m, W 0 m σ H1) ∧ ∀ i m σ H, W i m σ H →
  (J.stop i H ∧ D.nx σ H) ∨ (J.go i H ∧ ∃ N : St → Hp → Prop, (∀ σ' H', N σ' H' → ∃ m', m' < m ∧ W (i + 1) m' σ' H') ∧ ∀ x H', J.yld i H x H' → g x σ H' fun σ2 H2 => tb { D with nx := N, ct := N, bk := D.nx } σ2 H2)
def pinsAt (fp : List Addr) (h : Heap) : List (Addr × Obj) := fp.filterMap fun b => (h.get? b).map fun o => (b, o)
theorem mem_pinsAt {fp : List Addr} {h : Heap} {b : Addr} {o : Obj} (hb : b ∈ fp) (e : h.get? b = some o) : (b, o) ∈ pinsAt fp h := List.mem_filterMap.mpr ⟨b, hb, by rw [e]; rfl⟩
theorem of_pinsAt {fp : List Addr} {h : Heap} {p : Addr × Obj} (hp : p ∈ pinsAt fp h) : p.1 ∈ fp ∧ h.get? p.1 = some p.2 := by
  obtain ⟨b, hb, e⟩ := List.mem_filterMap.mp hp
  cases q : h.get? b with
  | none => rw [q] at e; cases e
  | some o =>
    rw [q] at e
    have e' : (b, o) = p := Option.some.inj e
    subst e'
    exact ⟨hb, q⟩
theorem Inv.pinned {pins : List (Addr × Obj)} {σ : St} {H : Hp} {s : Shared} {fp : List Addr} (I : Inv X pins σ H s) (hf : ∀ b ∈ fp, FpOk X pins H b) (ho : ∀ b ∈ fp, ∃ o, s.heap.get? b = some o ∧ ∀ v, o.data ≠ .cell v) : Inv X (pins ++ pinsAt fp s.heap) σ H s :=
  I.pins_of fun p hp => (List.mem_append.mp hp).elim (fun z => I.pin p (List.mem_append_right _ z)) fun z => by
    obtain ⟨hb, e⟩ := of_pinsAt z
    obtain ⟨f0, f1, f2, _⟩ := hf p.1 hb
    obtain ⟨o, e', d⟩ := ho p.1 hb
    rw [e] at e'; cases e'
    exact ⟨e, f0, f1, f2, d⟩
theorem Inv.unpinned {pins pl : List (Addr × Obj)} {σ : St} {H : Hp} {s : Shared} (I : Inv X (pins ++ pl) σ H s) : Inv X pins σ H s := I.pins_of fun p hp => I.pin p (List.mem_append_right _ (List.mem_append_left _ hp))
theorem ps_for {iter : Expr} {body : List Stmt} {wi : TI} {g : TG} {tb : TS} {pos : Pos} (hp : PassesOwn (model X.prog X.w) X.A X.env X.xe) (hc : X.calm = true) (hi : PI X tg iter wi) (hg : PG X tg g) (hb : PSs X body tb)
    (hs : ∀ x, foldedSetIterable iter X.env x = pure x := by intro _; rfl) : PS X (.For tg iter body [] pos) (tFor wi g tb) := by
  intro pins s σ H D I h
  refine wpAny_For (thn (hi pins s σ H _ I h) fun v s1 h1 => thn h1 fun itv s2 h2 => ?_) hs
  obtain ⟨it, fp, tn, J, H2, e, I2, T, st2, f2, W, ⟨m0, w0⟩, turn⟩ := h2
  subst e
  -- what stays true of the iterator's objects through the loop
  have stat : ∀ {H' : Hp}, (∀ b ∈ fp, H' b = none) → ∀ b ∈ fp, FpOk X pins H' b := fun hn b hb => ⟨hn b hb, (f2 b hb).2⟩
  refine codeAny_forLoop_any (fun n s' => ∃ i σ' H', Inv X pins σ' H' s' ∧ tn i s'.heap ∧ (∀ b ∈ fp, H' b = none) ∧ W i n σ' H') ?_ m0 ⟨0, σ, H2, I2, st2, fun b hb => (f2 b hb).1, w0⟩
  rintro n s3 ⟨i, σ3, H3, I3, st3, fr3, w3⟩
  rcases turn i n σ3 H3 w3 with ⟨stop, qn⟩ | ⟨go, N, hN, step⟩
  · refine wpAny_passesOwn hp (thn (T.done X rfl rfl rfl hc i pins s3 σ3 H3 X.xe I3 (stat fr3) st3 stop) fun r s4 ⟨hr, I4⟩ => ?_)
    subst hr
    exact wpAny_execs_nil ⟨σ3, H3, I4, qn⟩
  · refine wpAny_passesOwn hp (thn (T.item X rfl rfl rfl hc i pins s3 σ3 H3 X.xe I3 (stat fr3) st3 go) fun r s4 ⟨u, hr, h4⟩ => ?_)
    subst hr
    refine wpAny_passesOwn hp (thn h4 fun _ s5 ⟨x, H5, I5, r5, y5, st5, fr5⟩ => ?_)
    have I5' := I5.pinned (stat fr5) (T.obj _ _ st5)
    refine wpAny_passesOwn hp (thn (hg _ s5 σ3 H5 x u _ I5' r5 (step x H5 y5)) fun _ s6 ⟨σ6, H6, I6, q6⟩ => ?_)
    refine wpAny_passesOwn hp (thn (hb _ s6 σ6 H6 _ I6 q6) fun f s7 q7 => ?_)
    have again : ∀ {σ7 : St} {H7 : Hp}, Inv X (pins ++ pinsAt fp s5.heap) σ7 H7 s7 → N σ7 H7 → ∃ m, m < n ∧ ∃ i σ' H', Inv X pins σ' H' s7 ∧ tn i s7.heap ∧ (∀ b ∈ fp, H' b = none) ∧ W i m σ' H' := fun {σ7 H7} I7 n7 => by
      obtain ⟨m', hm, w7⟩ := hN σ7 H7 n7
      refine ⟨m', hm, i + 1, σ7, H7, I7.unpinned, T.keep _ _ _ st5 fun b hb o e => (I7.pin (b, o) (List.mem_append_right _ (List.mem_append_right _ (mem_pinsAt hb e)))).1, fun b hb => ?_, w7⟩
      obtain ⟨o, e, d⟩ := T.obj _ _ st5 b hb
      exact (I7.pin (b, o) (List.mem_append_right _ (List.mem_append_right _ (mem_pinsAt hb e)))).2.1
    cases f with
    | next => obtain ⟨σ7, H7, I7, n7⟩ := q7; exact again I7 n7
    | cont => obtain ⟨σ7, H7, I7, n7⟩ := q7; exact again I7 n7
    | brk => obtain ⟨σ7, H7, I7, q7⟩ := q7; exact ⟨σ7, H7, I7.unpinned, q7⟩
    | ret v => obtain ⟨x7, σ7, H7, I7, r7, q7⟩ := q7; exact ⟨x7, σ7, H7, I7.unpinned, r7, q7⟩
end
/-! ### the forms one uses -/
theorem for_list {K : PySem.W.Frag} {a : Addr} {xs : List V} {g : TG} {tb : TS} {D : Ends} {σ : St} {H : Hp} (Pv : Nat → St → Hp → Prop) (h0 : Pv 0 σ H) (hl : ∀ i σ H, i ≤ xs.length → Pv i σ H → SqL K H a xs)
    (hs : ∀ i x σ H, xs[i]? = some x → Pv i σ H → g x σ H fun σ2 H2 => tb { D with nx := Pv (i + 1), ct := Pv (i + 1), bk := D.nx } σ2 H2) (hd : ∀ σ H, Pv xs.length σ H → D.nx σ H) :
    ∃ W : Nat → Nat → St → Hp → Prop, (∃ m, W 0 m σ H) ∧ ∀ i m σ H, W i m σ H →
      ((Itl K a).stop i H ∧ D.nx σ H) ∨ ((Itl K a).go i H ∧ ∃ N : St → Hp → Prop, (∀ σ' H', N σ' H' → ∃ m', m' < m ∧ W (i + 1) m' σ' H') ∧ ∀ x H', (Itl K a).yld i H x H' → g x σ H' fun σ2 H2 => tb { D with nx := N, ct := N, bk := D.nx } σ2 H2) := by
  refine ⟨fun i m σ H => m = xs.length - i ∧ i ≤ xs.length ∧ Pv i σ H, ⟨xs.length, by simp, Nat.zero_le _, h0⟩, ?_⟩
  rintro i m σ H ⟨rfl, hi, p⟩
  have q := hl i σ H hi p
  by_cases hlt : i < xs.length
  · refine .inr ⟨⟨xs, xs[i], q, by simp [hlt]⟩, Pv (i + 1), fun σ' H' p' => ⟨xs.length - (i + 1), by omega, rfl, hlt, p'⟩, fun x H' y => ?_⟩
    obtain ⟨e, y⟩ := y
    subst e
    exact hs i x σ _ (y xs q) p
  · have e : i = xs.length := by omega
    subst e
    exact .inl ⟨⟨xs, q, Nat.le_refl _⟩, hd σ H p⟩
end L2
namespace L2
open PySem PySem.Spec PyProof.Rows
abbrev R2 := V → V → Hp → VK → Prop
def OpR (X : Cx) (f : Value → Value → Sem Value) (r : R2) : Prop :=
  ∀ (pins : List (Addr × Obj)) (s : Shared) (σ : St) (H : Hp) (x y : V) (v u : Value) (Q : VK), Inv X pins σ H s → RelV x v → RelV y u → r x y H Q →
    wpAny (model X.prog X.w) X.A (f v u) (EP X pins σ Q) X.xe s
def UnR (X : Cx) (f : Value → Sem Value) (r : V → Hp → VK → Prop) : Prop :=
  ∀ (pins : List (Addr × Obj)) (s : Shared) (σ : St) (H : Hp) (x : V) (v : Value) (Q : VK), Inv X pins σ H s → RelV x v → r x H Q →
    wpAny (model X.prog X.w) X.A (f v) (EP X pins σ Q) X.xe s
def CallR (X : Cx) (f : Value) (r : List V → Hp → VK → Prop) : Prop :=
  ∀ (pins : List (Addr × Obj)) (s : Shared) (σ : St) (H : Hp) (xs : List V) (us : List Value) (Q : VK), Inv X pins σ H s → Vals xs us → r xs H Q →
    wpAny (model X.prog X.w) X.A (call f us) (EP X pins σ Q) X.xe s
def TruR (X : Cx) (r : V → Hp → (Bool → Hp → Prop) → Prop) : Prop :=
  ∀ (pins : List (Addr × Obj)) (s : Shared) (σ : St) (H : Hp) (x : V) (v : Value) (Q : Bool → Hp → Prop), Inv X pins σ H s → RelV x v → r x H Q →
    wpAny (model X.prog X.w) X.A (truthy v) (TP X pins σ Q) X.xe s
def tOp (r : R2) (ta tb : TE) : TE := fun σ H Q => ta σ H fun x H1 => tb σ H1 fun y H2 => r x y H2 Q
def tUn (r : V → Hp → VK → Prop) (ta : TE) : TE := fun σ H Q => ta σ H fun x H1 => r x H1 Q
def rI (C : Int → Int → Prop) (g : Int → Int → V) : R2 := fun x y H Q => ∃ i j, x = .int i ∧ y = .int j ∧ C i j ∧ Q (g i j) H
def rI0 (g : Int → Int → V) : R2 := fun x y H Q => ∃ i j, x = .int i ∧ y = .int j ∧ Q (g i j) H
def rU (g : Int → V) : V → Hp → VK → Prop := fun x H Q => ∃ i, x = .int i ∧ Q (g i) H
section
variable {X : Cx} {a b c : Expr} {ta tb tc : TE} {pos : Pos}
theorem binT (ha : PE X a ta) (hb : PE X b tb) {pins : List (Addr × Obj)} {s : Shared} {σ : St} {H : Hp} {R : V → V → Hp → Prop} (I : Inv X pins σ H s)
    (h : ta σ H fun x H1 => tb σ H1 fun y H2 => R x y H2) {Q : Value → Shared → Prop} {f : Value → Value → Sem Value}
    (hf : ∀ v u s2 x y H2, Inv X pins σ H2 s2 → RelV x v → RelV y u → R x y H2 → wpAny (model X.prog X.w) X.A (f v u) Q X.xe s2) :
    wpAny (model X.prog X.w) X.A (eval a X.env) (fun v s₁ => wpAny (model X.prog X.w) X.A (eval b X.env) (fun u s₂ => wpAny (model X.prog X.w) X.A (f v u) Q X.xe s₂) X.xe s₁) X.xe s := by
  refine thn (ha pins s σ H _ I h) fun v s1 ⟨x, H1, I1, r1, q1⟩ => ?_
  refine thn (hb pins s1 σ H1 _ I1 q1) fun u s2 ⟨y, H2, I2, r2, q2⟩ => ?_
  exact hf v u s2 x y H2 I2 r1 r2 q2
theorem pe_op {op : Operator} {r : R2} (ho : OpR X (binaryOp op) r) (ha : PE X a ta) (hb : PE X b tb) : PE X (.BinOp a op b pos) (tOp r ta tb) := by
  intro pins s σ H Q I h
  exact wpAny_BinOp (binT ha hb I h fun v u s2 x y H2 I2 rx ry q => ho pins s2 σ H2 x y v u Q I2 rx ry q)
theorem pe_un {op : UnaryOp} {r : V → Hp → VK → Prop} (ho : UnR X (unaryOp op) r) (ha : PE X a ta) : PE X (.UnaryOp op a pos) (tUn r ta) := by
  intro pins s σ H Q I h
  exact UnaryOp_ (thn (ha pins s σ H _ I h) fun v s1 ⟨x, H1, I1, r1, q1⟩ => ho pins s1 σ H1 x v Q I1 r1 q1)
/-! ### ints -/
theorem opI {f : Value → Value → Sem Value} {C : Int → Int → Prop} {g : Int → Int → Int}
    (rule : ∀ (i j : Int) (t u : Tok) (s : Shared) (Q : Value → Shared → Prop) (E : Value → Shared → Prop), C i j → Q (.int (g i j) s.toks) { s with toks := s.toks + 1 } → wpAny (model X.prog X.w) X.A (f (.int i t) (.int j u)) Q E s) :
    OpR X f (rI C fun i j => .int (g i j)) := by
  intro pins s σ H x y v u Q I rx ry h
  obtain ⟨i, j, rfl, rfl, hc, q⟩ := h
  obtain ⟨t, rfl⟩ := rx
  obtain ⟨t', rfl⟩ := ry
  exact rule i j t t' s _ _ hc ⟨.int (g i j), H, I.tok _, ⟨_, rfl⟩, q⟩
theorem opI0 {f : Value → Value → Sem Value} {g : Int → Int → Int}
    (rule : ∀ (i j : Int) (t u : Tok) (s : Shared) (Q : Value → Shared → Prop) (E : Value → Shared → Prop), Q (.int (g i j) s.toks) { s with toks := s.toks + 1 } → wpAny (model X.prog X.w) X.A (f (.int i t) (.int j u)) Q E s) :
    OpR X f (rI0 fun i j => .int (g i j)) := by
  intro pins s σ H x y v u Q I rx ry h
  obtain ⟨i, j, rfl, rfl, q⟩ := h
  obtain ⟨t, rfl⟩ := rx
  obtain ⟨t', rfl⟩ := ry
  exact rule i j t t' s _ _ ⟨.int (g i j), H, I.tok _, ⟨_, rfl⟩, q⟩
theorem opB0 {f : Value → Value → Sem Value} {g : Int → Int → Bool}
    (rule : ∀ (i j : Int) (t u : Tok) (s : Shared) (Q : Value → Shared → Prop) (E : Value → Shared → Prop), Q (.bool (g i j)) s → wpAny (model X.prog X.w) X.A (f (.int i t) (.int j u)) Q E s) :
    OpR X f (rI0 fun i j => .bl (g i j)) := by
  intro pins s σ H x y v u Q I rx ry h
  obtain ⟨i, j, rfl, rfl, q⟩ := h
  obtain ⟨t, rfl⟩ := rx
  obtain ⟨t', rfl⟩ := ry
  exact rule i j t t' s _ _ ⟨.bl (g i j), H, I, rfl, q⟩
def CDiv (i j : Int) : Prop := 0 < j ∧ j < 1073741824
def CDivN (i j : Int) : Prop := j ≠ 0 ∧ j.natAbs < 1073741824
def CPow (i j : Int) : Prop := 0 ≤ j ∧ j ≤ 1000000 ∧ i.natAbs < 2 ^ 64
def CMul (i j : Int) : Prop := (-(2 ^ 64) < i ∧ i < 2 ^ 64) ∨ (-(2 ^ 64) < j ∧ j < 2 ^ 64)
theorem CMul.ok {i j : Int} (h : CMul i j) : IntMulOk i j := by
  rcases h with ⟨h1, h2⟩ | ⟨h1, h2⟩
  · exact .of_left (intBits_le_64 h1 h2)
  · exact .of_right (intBits_le_64 h1 h2)
theorem two_pow_nn (k : Nat) : (0 : Int) ≤ 2 ^ k := by
  rw [two_pow_cast]
  exact Int.natCast_nonneg _
theorem op_add : OpR X (binaryOp .Add) (rI0 fun i j => .int (i + j)) := opI0 fun _ _ _ _ _ _ _ q => add_int q
theorem op_sub : OpR X (binaryOp .Sub) (rI0 fun i j => .int (i - j)) := opI0 fun _ _ _ _ _ _ _ q => sub_int q
theorem op_mul : OpR X (binaryOp .Mult) (rI CMul fun i j => .int (i * j)) := opI fun _ _ _ _ _ _ _ hc q => mul_int q hc.ok
theorem op_shl : OpR X (binaryOp .LShift) (rI CPow fun i j => .int (i * 2 ^ j.toNat)) := opI fun _ _ _ _ _ _ _ hc q => lshift_int_small hc.1 hc.2.1 hc.2.2 q
theorem op_shr : OpR X (binaryOp .RShift) (rI (fun _ j => 0 ≤ j) fun i j => .int (i / 2 ^ j.toNat)) := opI fun i j _ _ _ _ _ hc q =>
  rshift_int hc (by rw [Int.fdiv_eq_ediv_of_nonneg i (two_pow_nn _)]; exact q)
theorem op_and : OpR X (binaryOp .BitAnd) (rI0 fun i j => .int (Builtin.bitAnd i j)) := opI0 fun _ _ _ _ _ _ _ q => and_int q
theorem op_or : OpR X (binaryOp .BitOr) (rI0 fun i j => .int (Builtin.bitOr i j)) := opI0 fun _ _ _ _ _ _ _ q => or_int q
theorem op_xor : OpR X (binaryOp .BitXor) (rI0 fun i j => .int (Builtin.bitXor i j)) := opI0 fun _ _ _ _ _ _ _ q => xor_int q
theorem unI {f : Value → Sem Value} {g : Int → Int}
    (rule : ∀ (i : Int) (t : Tok) (s : Shared) (Q : Value → Shared → Prop) (E : Value → Shared → Prop), Q (.int (g i) s.toks) { s with toks := s.toks + 1 } → wpAny (model X.prog X.w) X.A (f (.int i t)) Q E s) :
    UnR X f (rU fun i => .int (g i)) := by
  intro pins s σ H x v Q I rx h
  obtain ⟨i, rfl, q⟩ := h
  obtain ⟨t, rfl⟩ := rx
  exact rule i t s _ _ ⟨.int (g i), H, I.tok _, ⟨_, rfl⟩, q⟩
theorem un_neg : UnR X (unaryOp .USub) (rU fun i => .int (-i)) := unI fun _ _ _ _ _ q => neg_int q
/-! ### bools among ints: n += (a < b) -/
end
/-! ### comparisons -/
def scal : V → V → Bool
  | .non, .non => true | .non, .int _ => true | .int _, .non => true | .non, .bl _ => true | .bl _, .non => true | .non, .str _ => true | .str _, .non => true
  | .int _, .int _ => true | .bl _, .bl _ => true | .str _, .str _ => true | .byt _, .byt _ => true
  | .int _, .str _ => true | .str _, .int _ => true | .bl _, .str _ => true | .str _, .bl _ => true
  | _, _ => false
def rEq : R2 := fun x y H Q => scal x y = true ∧ Q (.bl (decide (x = y))) H
def rNe : R2 := fun x y H Q => scal x y = true ∧ Q (.bl (!decide (x = y))) H
theorem dec_int {i j : Int} : decide (V.int i = V.int j) = (i == j) := by
  rw [Bool.eq_iff_iff]
  simp
theorem dec_bl {i j : Bool} : decide (V.bl i = V.bl j) = (i == j) := by
  rw [Bool.eq_iff_iff]
  simp
theorem dec_str {i j : Str} : decide (V.str i = V.str j) = (i == j) := by
  rw [Bool.eq_iff_iff]
  simp
theorem dec_byt {i j : Array UInt8} : decide (V.byt i = V.byt j) = (i.toList == j.toList) := by
  rw [Bool.eq_iff_iff]
  cases i
  cases j
  simp
section
variable {X : Cx} {a b c : Expr} {ta tb tc : TE} {pos : Pos}
theorem fin_bl {pins : List (Addr × Obj)} {σ : St} {H : Hp} {s : Shared} {Q : VK} {k k' : Bool} (I : Inv X pins σ H s) (q : Q (.bl k) H) (e : k = k') : EP X pins σ Q (.bool k') s := by
  subst e
  exact ⟨.bl k, H, I, rfl, q⟩
theorem op_eq : OpR X (compareOp .Eq) rEq := by
  intro pins s σ H x y v u Q I rx ry h
  obtain ⟨hs, q⟩ := h
  cases x with
  | non =>
    cases rx
    cases y with
    | non => cases ry; exact PySem.EqNone.eq_none_none (fin_bl I q (by simp))
    | bl j => cases ry; exact PySem.EqNone.eq_none_bool (fin_bl I q (by simp))
    | int j => obtain ⟨t', rfl⟩ := ry; exact PySem.EqNone.eq_none_int (fin_bl I q (by simp))
    | str j => obtain ⟨t', rfl⟩ := ry; exact PySem.EqNone.eq_none_str (fin_bl I q (by simp))
    | _ => exact absurd (show false = true from hs) Bool.false_ne_true
  | bl i =>
    cases rx
    cases y with
    | non => cases ry; exact PySem.EqNone.eq_bool_none (fin_bl I q (by simp))
    | bl j => cases ry; exact eq_bool (fin_bl I q dec_bl)
    | str j => obtain ⟨t', rfl⟩ := ry; exact PySem.EqMixed.eq_bool_str (fin_bl I q (by simp))
    | _ => exact absurd (show false = true from hs) Bool.false_ne_true
  | int i =>
    obtain ⟨t, rfl⟩ := rx
    cases y with
    | non => cases ry; exact PySem.EqNone.eq_int_none (fin_bl I q (by simp))
    | int j => obtain ⟨t', rfl⟩ := ry; exact eq_int (fin_bl I q dec_int)
    | str j => obtain ⟨t', rfl⟩ := ry; exact PySem.EqMixed.eq_int_str (fin_bl I q (by simp))
    | _ => exact absurd (show false = true from hs) Bool.false_ne_true
  | str i =>
    obtain ⟨t, rfl⟩ := rx
    cases y with
    | non => cases ry; exact PySem.EqNone.eq_str_none (fin_bl I q (by simp))
    | bl j => cases ry; exact PySem.EqMixed.eq_str_bool (fin_bl I q (by simp))
    | int j => obtain ⟨t', rfl⟩ := ry; exact PySem.EqMixed.eq_str_int (fin_bl I q (by simp))
    | str j => obtain ⟨t', rfl⟩ := ry; exact eq_str (fin_bl I q dec_str)
    | _ => exact absurd (show false = true from hs) Bool.false_ne_true
  | byt i =>
    obtain ⟨t, rfl⟩ := rx
    cases y with
    | byt j => obtain ⟨t', rfl⟩ := ry; exact PySem.W.eq_bytes (fin_bl I q dec_byt)
    | _ => exact absurd (show false = true from hs) Bool.false_ne_true
  | _ => cases y <;> exact absurd (show false = true from hs) Bool.false_ne_true
theorem op_lt : OpR X (compareOp .Lt) (rI0 fun i j => .bl (decide (i < j))) := opB0 fun _ _ _ _ _ _ _ q => lt_int q
theorem op_gt : OpR X (compareOp .Gt) (rI0 fun i j => .bl (decide (j < i))) := opB0 fun _ _ _ _ _ _ _ q => gt_int q
theorem op_ge : OpR X (compareOp .GtE) (rI0 fun i j => .bl (decide (j ≤ i))) := opB0 fun _ _ _ _ _ _ _ q => ge_int q
def isObj : HO → Bool
  | .lst _ => true
  | .ins _ _ _ => true
  | _ => false
theorem nomark (b : Expr) {op : CmpOp} (h : op ≠ .In := by decide) (h2 : op ≠ .NotIn := by decide) : behindInMarks op b = false := by
  have e1 : (op == CmpOp.In) = false := by cases op <;> first | rfl | exact absurd rfl h
  have e2 : (op == CmpOp.NotIn) = false := by cases op <;> first | rfl | exact absurd rfl h2
  cases b <;> simp [behindInMarks, e1, e2]
def tTest (t : TE) : TT := fun σ H Q => t σ H fun x H' => ∃ k, x = .bl k ∧ Q k H'
theorem pt_cmpR {op : CmpOp} {r : R2} (ho : OpR X (compareOp op) r) (ha : PE X a ta) (hb : PE X b tb) (hm : behindInMarks op b = false) : PT X (.Compare a [op] [b] pos) (tTest (tOp r ta tb)) := by
  intro pins s σ H Q I h
  refine wpAny_isTrue_Compare1 (thn (ha pins s σ H _ I h) fun v s1 ⟨x, H1, I1, r1, q1⟩ => thn (hb pins s1 σ H1 _ I1 q1) fun u s2 ⟨y, H2, I2, r2, q2⟩ =>
    thn (ho pins s2 σ H2 x y v u _ I2 r1 r2 q2) fun c s3 ⟨z, H3, I3, r3, k, e, q3⟩ => ?_) hm
  subst e
  cases r3
  exact wpAny_truthy_bool ⟨H3, I3, q3⟩
def tChain (r r' : R2) (ta tb tc : TE) : TE := fun σ H Q => ta σ H fun x H1 => tb σ H1 fun y H2 => r x y H2 fun z H3 => ∃ k, z = .bl k ∧
  (if k = true then tc σ H3 fun w' H4 => r' y w' H4 Q else Q (.bl false) H3)
/-! ### truth -/
def TruV (K : PySem.W.Frag) (x : V) (H : Hp) (k : Bool) : Prop :=
  match x with
  | .non => k = false
  | .bl b => k = b
  | .int i => k = (i != 0)
  | .str y => y.length ≤ sizeLine ∧ k = ((y.length : Int) != 0)
  | .byt y => y.size ≤ sizeLine ∧ k = ((y.size : Int) != 0)
  | .ref p => (∃ xs, SqL K H p xs ∧ k = !xs.isEmpty) ∨ (∃ xs, SqT K H p xs ∧ k = !xs.isEmpty) ∨ ∃ kvs, H p = some (.dK kvs) ∧ k = !kvs.isEmpty
  | _ => False
theorem line63 : (sizeLine : Nat) < 2 ^ 63 := by rw [sizeLine_eq]; decide
/-! ### strs and bytes -/
def PlainIxT (b : Expr) : Prop := ∀ o i, subscripted b false o i = operate [o, i] (getItem o i)
/-! ### scalar builtins, by CallR -/
theorem vals1 {x : V} {us : List Value} (r : Vals [x] us) : ∃ u, us = [u] ∧ RelV x u := by
  cases r with
  | cons r1 r2 => cases r2; exact ⟨_, rfl, r1⟩
theorem vals2 {x y : V} {us : List Value} (r : Vals [x, y] us) : ∃ u w', us = [u, w'] ∧ RelV x u ∧ RelV y w' := by
  cases r with
  | cons r1 r2 =>
    cases r2 with
    | cons r3 r4 => cases r4; exact ⟨_, _, rfl, r1, r3⟩
theorem call_abs : CallR X (.builtin "abs") (fun xs H Q => ∃ i, xs = [.int i] ∧ Q (.int (if i < 0 then -i else i)) H) := by
  intro pins s σ H xs us Q I r h
  obtain ⟨i, rfl, q⟩ := h
  obtain ⟨u, rfl, t, rfl⟩ := vals1 r
  exact call_abs_int fun u tk => ⟨.int (if i < 0 then -i else i), H, I.tok _, ⟨_, rfl⟩, q⟩
theorem call_max2 (hc : X.calm = true) : CallR X (.builtin "max") (fun xs H Q => ∃ i j, xs = [.int i, .int j] ∧ Q (.int (if j > i then j else i)) H) := by
  intro pins s σ H xs us Q I r h
  obtain ⟨i, j, rfl, q⟩ := h
  obtain ⟨u, w', rfl, ⟨t, rfl⟩, ⟨t', rfl⟩⟩ := vals2 r
  refine max_two_ints (I.ok.hd hc) fun h' tk k => ⟨_, H, I.kept k, ?_, q⟩
  by_cases hj : j > i
  · rw [if_pos hj, if_pos hj]; exact ⟨_, rfl⟩
  · rw [if_neg hj, if_neg hj]; exact ⟨_, rfl⟩
theorem call_min2 (hc : X.calm = true) : CallR X (.builtin "min") (fun xs H Q => ∃ i j, xs = [.int i, .int j] ∧ Q (.int (if j < i then j else i)) H) := by
  intro pins s σ H xs us Q I r h
  obtain ⟨i, j, rfl, q⟩ := h
  obtain ⟨u, w', rfl, ⟨t, rfl⟩, ⟨t', rfl⟩⟩ := vals2 r
  refine min_two_ints (I.ok.hd hc) fun h' tk k => ⟨_, H, I.kept k, ?_, q⟩
  by_cases hj : j < i
  · rw [if_pos hj, if_pos hj]; exact ⟨_, rfl⟩
  · rw [if_neg hj, if_neg hj]; exact ⟨_, rfl⟩
def LenV (K : PySem.W.Frag) (x : V) (H : Hp) (n : Nat) : Prop :=
  match x with
  | .str y => y.length ≤ sizeLine ∧ n = y.length
  | .byt y => y.size ≤ sizeLine ∧ n = y.size
  | .ref p => (∃ xs, SqL K H p xs ∧ n = xs.length) ∨ ∃ xs, SqT K H p xs ∧ n = xs.length
  | _ => False
end
end L2
namespace L2
open PySem PySem.Spec PyProof.Rows
/-! ### an instance, its attributes a map -/
structure ObjM (h : Heap) (x dx C : Addr) (mA : Str → Option Value) : Prop where
  obj : h.get? x = some (PySem.W.instObj C dx)
  ns : h.Ns1 dx mA
  ne : dx ≠ x
theorem lookIn_ns {h : Heap} {dx : Addr} {mA : Str → Option Value} (n : h.Ns1 dx mA) : ∃ od, h.get? dx = some od ∧ ∀ name, PySem.W.lookIn name od = some (mA name) := by
  obtain ⟨o, es, ep, ho, hd, hk, _, hm⟩ := n
  refine ⟨o, ho, fun name => ?_⟩
  have e := hm name
  unfold nsFind findBy at e
  rw [← Array.find?_toList] at e
  unfold PySem.W.lookIn
  rw [hd]
  dsimp only
  split
  · rename_i y q
    rw [q] at e
    exact congrArg some e
  · rename_i q
    rw [q] at e
    have a : es.toList.any (·.refKey) = false := by
      rw [List.any_eq_false]
      intro y hy
      obtain ⟨z, t, hkey⟩ := hk y (Array.mem_toList_iff.mp hy)
      simp [DictEntry.refKey, hkey]
    have a' : ¬ es.toList.any (·.refKey) = true := by rw [a]; exact Bool.false_ne_true
    rw [if_neg a']
    exact congrArg some e
theorem ObjM.look {h : Heap} {x dx C : Addr} {mA : Str → Option Value} (I : ObjM h x dx C mA) : ∃ od, PySem.W.InstAt h x (PySem.W.instObj C dx) C (some od) ∧ ∀ name, PySem.W.lookIn name od = some (mA name) :=
  let ⟨od, ho, hl⟩ := lookIn_ns I.ns
  ⟨od, ⟨I.obj, rfl, rfl, ho⟩, hl⟩
section
variable {prog : Program} {w : World} {A : Around} {E : Value → Shared → Prop} {s : Shared} {K : PySem.W.Frag} {x dx C f : Addr} {mA : Str → Option Value} {name : Str} {v : Value}
theorem get_map {expr : Bool} {Q : Value → Shared → Prop} (X : K.In s.heap) (I : ObjM s.heap x dx C mA) (hg : PySem.W.plainGet K C name = true) (hh : PySem.W.hasDictIn K C = true)
    (ha : PySem.W.findIn K (.ref C) name = some none) (hv : mA name = some v) (hv' : PySem.W.handedIn v = true) (h : Q v { s with toks := s.toks + 1 }) :
    wpAny (model prog w) A (getAttr (.ref x) name expr) Q E s := by
  obtain ⟨od, J, hl⟩ := I.look
  exact PySem.W.get_value X J (PySem.W.plainGet_of hg).1 (PySem.W.findObj_own hh ha rfl (by rw [hl, hv])) hv' h
theorem get_meth {pl : Sem Bool} {Q : Value × List Value → Shared → Prop} (X : K.In s.heap) (I : ObjM s.heap x dx C mA) (hg : PySem.W.plainGet K C name = true)
    (hf : PySem.W.findIn K (.ref C) name = some (some (.ref f))) (ht : PySem.W.isFn K (.ref f) = true) (hv : mA name = none) (h : Q (.ref f, [.ref x]) s) :
    wpAny (model prog w) A (getMethod (.ref x) name pl) Q E s := by
  obtain ⟨od, J, hl⟩ := I.look
  exact PySem.W.method_fn X J (PySem.W.plainGet_of hg).1 (PySem.W.plainGet_of hg).2 hf (beq_iff_eq.mp ht) (by show (PySem.W.lookIn name od).map (·.isSome) = some false; rw [hl, hv]; rfl) h
theorem set_map {ns : List Str} {Q : Unit → Shared → Prop} (X : K.In s.heap) (I : ObjM s.heap x dx C mA)
    (hs : PySem.W.findIn K (.ref C) "__setattr__" = some (some (.builtin "object.__setattr__"))) (hp : PySem.W.plainOver K C = true) (ht : PySem.W.takerIn K C name = some none) (hh : PySem.W.hasDictIn K C = true)
    (hw : PySem.Within mA ns) (hsz : ns.length ≤ sizeLine)
    (h : ∀ h', ObjM h' x dx C (fun y => if y = name then some v else mA y) → Heap.SameBut dx s.heap h' → Q () { s with heap := h', toks := s.toks + 2 }) :
    wpAny (model prog w) A (setAttr (.ref x) name v) Q E s := by
  obtain ⟨od, J, hl⟩ := I.look
  refine PySem.W.set_plain X J hs (PySem.W.osa_open (s := { s with toks := s.toks + 1 }) (r := none) X J hp ht fun b => ?_)
  obtain ⟨cd, hc, hd'⟩ := PySem.W.any_some hh
  have hx : s.heap.get? x = some ⟨.ref C, some dx, .plain, #[]⟩ := I.obj
  refine wpAny_bind (wpAny_pure (wpAny_bind (wpAny_bind (wpAny_loadPart hx (wpAny_bind (PySem.W.Looks.here (s := { s with toks := s.toks + 1 }) (PySem.W.looks_clsIn X hc) ?_))))))
  rw [hd']
  refine wpAny_pure (a := some dx) (wpAny_bind (wpAny_pure (wpAny_bind ?_)))
  refine wpAny_nsSet1 (s := { s with toks := s.toks + 1 }) I.ns fun h' hn2 hs2 => ?_
  obtain ⟨oD, esD, epD, hoD, hdD, hcD⟩ := hn2.count (PySem.Within.cons name v hw)
  refine wpAny_bind (wpAny_lookBehind hoD (by rw [hdD]; exact pastItsLine_dict (Nat.le_trans hcD (by rw [List.length_cons]; omega))) ?_)
  exact wpAny_pure (h _ ⟨(hs2.2 _ (Ne.symm I.ne)).trans I.obj, hn2, I.ne⟩ hs2)
theorem make_map {R : Result → Shared → Prop} {vs : List Value} {kw : List (Str × Value)} (X : K.In s.heap) (hm : PySem.W.makesIn K C = true)
    (hi : PySem.W.findIn K (.ref C) "__init__" = some (some (.ref f))) (hf : PySem.W.typeIn K (.ref f) = some (.type "function"))
    (h : codeAny (model prog w) (A.under (.builtin "type.__call__" ⟨.ref C :: vs, kw⟩)) (.call (.ref f) ⟨.ref (s.heap.objs.size + 1) :: vs, kw⟩) (PySem.W.InitBack (s.heap.objs.size + 1) R)
      { s with heap := (s.heap.push PySem.W.emptyDict).push (PySem.W.instObj C s.heap.objs.size) }) :
    codeAny (model prog w) A (.call (.ref C) ⟨vs, kw⟩) R s := by
  obtain ⟨hh, g, d, t, os⟩ := s
  exact PySem.W.make_core (PySem.W.makes_of X hm) (PySem.W.looks_findIn X hi) (fun self => PySem.W.bind_fn X self hf) (.inl rfl) h
end
/-! ### the attributes as a list of pairs -/
def putF (f : Str) (v : V) : List (Str × V) → List (Str × V)
  | [] => [(f, v)]
  | (g, x) :: r => if g = f then (g, v) :: r else (g, x) :: putF f v r
theorem lookup_putF (f g : Str) (v : V) : ∀ fs : List (Str × V), (putF f v fs).lookup g = if g = f then some v else fs.lookup g
  | [] => by
    show List.lookup g [(f, v)] = _
    by_cases h : g = f
    · have hb : (g == f) = true := beq_iff_eq.mpr h
      simp only [List.lookup, hb, if_pos h]
    · have hb : (g == f) = false := beq_eq_false_iff_ne.mpr h
      simp only [List.lookup, hb, if_neg h]
  | (k, x) :: r => by
    have ih := lookup_putF f g v r
    rw [show putF f v ((k, x) :: r) = (if k = f then (k, v) :: r else (k, x) :: putF f v r) from rfl]
    by_cases hk : k = f
    · rw [if_pos hk]
      by_cases h : g = k
      · have hb : (g == k) = true := beq_iff_eq.mpr h
        simp only [List.lookup, hb, if_pos (h.trans hk)]
      · have hb : (g == k) = false := beq_eq_false_iff_ne.mpr h
        simp only [List.lookup, hb, if_neg (fun e : g = f => h (e.trans hk.symm))]
    · rw [if_neg hk]
      by_cases h : g = k
      · have hb : (g == k) = true := beq_iff_eq.mpr h
        simp only [List.lookup, hb, if_neg (fun e : g = f => hk (h.symm.trans e))]
      · have hb : (g == k) = false := beq_eq_false_iff_ne.mpr h
        simp only [List.lookup, hb]
        exact ih
theorem keys_putF (f : Str) (v : V) : ∀ fs : List (Str × V), f ∈ (putF f v fs).map (·.1) ∧ ∀ g, g ∈ fs.map (·.1) → g ∈ (putF f v fs).map (·.1)
  | [] => ⟨by simp [putF], fun g h => by simp at h⟩
  | (k, x) :: r => by
    obtain ⟨i1, i2⟩ := keys_putF f v r
    rw [show putF f v ((k, x) :: r) = (if k = f then (k, v) :: r else (k, x) :: putF f v r) from rfl]
    by_cases hk : k = f
    · rw [if_pos hk]
      subst hk
      exact ⟨by simp, fun g h => by simpa using h⟩
    · rw [if_neg hk]
      refine ⟨?_, fun g h => ?_⟩
      · rw [List.map_cons]
        exact List.mem_cons_of_mem _ i1
      · rw [List.map_cons] at h ⊢
        rcases List.mem_cons.mp h with e | e
        · exact List.mem_cons.mpr (.inl e)
        · exact List.mem_cons_of_mem _ (i2 g e)
theorem length_putF (f : Str) (v : V) : ∀ fs : List (Str × V), (putF f v fs).length ≤ fs.length + 1
  | [] => by simp [putF]
  | (k, x) :: r => by
    have ih := length_putF f v r
    rw [show putF f v ((k, x) :: r) = (if k = f then (k, v) :: r else (k, x) :: putF f v r) from rfl]
    by_cases hk : k = f
    · rw [if_pos hk, List.length_cons, List.length_cons]; omega
    · rw [if_neg hk, List.length_cons, List.length_cons]; omega
theorem RelO.some_of {v : V} {o : Option Value} (r : RelO (some v) o) : ∃ u, o = some u ∧ RelV v u := by
  cases o with
  | none => exact (show False from r).elim
  | some u => exact ⟨u, rfl, r⟩
theorem RelO.none_of {o : Option Value} (r : RelO none o) : o = none := by
  cases o with
  | none => rfl
  | some u => exact (show False from r).elim
theorem handed_of {v : V} {u : Value} (r : RelV v u) : PySem.W.handedIn u = true := by
  cases v with
  | non => cases (show u = Value.none from r); rfl
  | bl b => cases (show u = Value.bool b from r); rfl
  | int i => obtain ⟨t, e⟩ := (show ∃ t, u = Value.int i t from r); cases e; rfl
  | str x => obtain ⟨t, e⟩ := (show ∃ t, u = Value.str x t from r); cases e; rfl
  | byt b => obtain ⟨t, e⟩ := (show ∃ t, u = Value.bytes b t from r); cases e; rfl
  | flt b => obtain ⟨t, e⟩ := (show ∃ t, u = Value.float b t from r); cases e; rfl
  | ref a => cases (show u = Value.ref a from r); rfl
  | ty n => cases (show u = Value.type n from r); rfl
section
variable {P : Program} {w : World} {H H' : Hp} {h h' : Heap} {a C dx : Addr} {fs fs' : List (Str × V)}
theorem ins_get (hok : HOk P w H h) (e : H a = some (.ins C dx fs)) : ∃ mA, ObjM h a dx C mA ∧ (∀ f, RelO (fs.lookup f) (mA f)) ∧ PySem.Within mA (fs.map (·.1)) ∧ fs.length ≤ 1000 ∧ H dx = some (.own a) := by
  obtain ⟨d, z, ne, ob, mA, n, r, q⟩ := (show ObjOk P w H h a (.ins C dx fs) from hok a _ e)
  exact ⟨mA, ⟨ob, n, ne⟩, r, q, z, d⟩
end
/-! ### what of the text a class must have -/
structure Cls (K : PySem.W.Frag) (C : Addr) : Prop where
  pg : PySem.W.plainGet K C Str.empty = true
  hd : PySem.W.hasDictIn K C = true
  po : PySem.W.plainOver K C = true
  sa : PySem.W.findIn K (.ref C) "__setattr__" = some (some (.builtin "object.__setattr__"))
theorem Cls.get {K : PySem.W.Frag} {C : Addr} (c : Cls K C) (f : Str) : PySem.W.plainGet K C f = true := c.pg
def NoAttr (K : PySem.W.Frag) (C : Addr) (f : Str) : Prop := PySem.W.findIn K (.ref C) f = some none
theorem NoAttr.taker {K : PySem.W.Frag} {C : Addr} {f : Str} (n : NoAttr K C f) : PySem.W.takerIn K C f = some none := by
  unfold PySem.W.takerIn
  rw [show PySem.W.findIn K (.ref C) f = some none from n]
  rfl
structure Con (K : PySem.W.Frag) (C : Addr) (f : Str) (v : V) (u : Value) : Prop where
  at_ : PySem.W.findIn K (.ref C) f = some (some u)
  rel : RelV v u
  get : PySem.W.specialIn K u "__get__" = some none
  cp : PySem.W.copiedNames.contains f = false
structure Meth (K : PySem.W.Frag) (C : Addr) (m : Str) (f : Addr) : Prop where
  at_ : PySem.W.findIn K (.ref C) m = some (some (.ref f))
  fn : PySem.W.isFn K (.ref f) = true
  kp : PySem.W.keepIn K (.ref f) = true
section
variable {X : Cx} {pins : List (Addr × Obj)} {σ : St} {H : Hp} {s : Shared} {a C dx : Addr} {fs : List (Str × V)} {f : Str} {v : V} {A : Around} {E : Value → Shared → Prop}
theorem getattr_ok {b : Bool} {Q : Value → Shared → Prop} (I : Inv X pins σ H s) (e : H a = some (.ins C dx fs)) (c : Cls X.K C) (n : NoAttr X.K C f) (l : fs.lookup f = some v)
    (h : ∀ u s', Inv X pins σ H s' → RelV v u → Q u s') : wpAny (model X.prog X.w) A (getAttr (.ref a) f b) Q E s := by
  obtain ⟨mA, O, r, _, _, _⟩ := ins_get I.hok e
  obtain ⟨u, hu, ru⟩ := RelO.some_of (v := v) (o := mA f) (by rw [← l]; exact r f)
  exact get_map I.kIn O (c.get f) c.hd n hu (handed_of ru) (h u _ (I.tok _) ru)
theorem getmeth_ok {m : Str} {g : Addr} {pl : Sem Bool} {Q : Value × List Value → Shared → Prop} (I : Inv X pins σ H s) (e : H a = some (.ins C dx fs)) (c : Cls X.K C) (k : Meth X.K C m g) (l : fs.lookup m = none)
    (h : Q (.ref g, [.ref a]) s) : wpAny (model X.prog X.w) A (getMethod (.ref a) m pl) Q E s := by
  obtain ⟨mA, O, r, _, _, _⟩ := ins_get I.hok e
  have hn : mA m = none := RelO.none_of (by rw [← l]; exact r m)
  exact get_meth I.kIn O (c.get m) k.at_ k.fn hn h
theorem setattr_ok {y : V} {u : Value} {Q : Unit → Shared → Prop} (I : Inv X pins σ H s) (e : H a = some (.ins C dx fs)) (c : Cls X.K C) (n : NoAttr X.K C f) (hl : fs.length < 1000) (ry : RelV y u)
    (h : ∀ s', Inv X pins σ (upd H a (.ins C dx (putF f y fs))) s' → Q () s') : wpAny (model X.prog X.w) A (setAttr (.ref a) f u) Q E s := by
  obtain ⟨mA, O, r, wi, _, ho⟩ := ins_get I.hok e
  have hz : (fs.map (·.1)).length ≤ sizeLine := by rw [List.length_map, sizeLine_eq]; omega
  refine set_map I.kIn O c.sa c.po n.taker c.hd wi hz fun h' O' sb => h _ ?_
  have hd : ∃ o, h'.get? dx = some o := let ⟨o, _, _, e', _⟩ := O'.ns; ⟨o, e'⟩
  refine I.write (x := a) (e := dx) (by rw [e]; exact True.intro) (.inr ho) (fun b q hb z => (sb.2 b hb).trans z) hd ?_
  refine ⟨by rw [upd_ne O.ne]; exact ho, ?_, O.ne, O'.obj, _, O'.ns, fun g => ?_, fun g hg => ?_⟩
  · have := length_putF f y fs; omega
  · show RelO ((putF f y fs).lookup g) (if g = f then some u else mA g)
    rw [lookup_putF]
    by_cases q : g = f
    · rw [if_pos q, if_pos q]; exact ry
    · rw [if_neg q, if_neg q]; exact r g
  · by_cases q : g = f
    · rw [q]; exact (keys_putF f y fs).1
    · refine (keys_putF f y fs).2 g (wi g fun z => hg ?_)
      show (if g = f then some u else mA g) = none
      rw [if_neg q]; exact z
theorem Inv.made (I : Inv X pins σ H s) : Inv X pins σ (upd (upd H s.heap.objs.size (.own (s.heap.objs.size + 1))) (s.heap.objs.size + 1) (.ins C s.heap.objs.size []))
    { s with heap := (s.heap.push PySem.W.emptyDict).push (PySem.W.instObj C s.heap.objs.size) } := by
  have e1 : (s.heap.push PySem.W.emptyDict).get? s.heap.objs.size = some PySem.W.emptyDict := Heap.get?_push_size s.heap rfl
  have e2 : ((s.heap.push PySem.W.emptyDict).push (PySem.W.instObj C s.heap.objs.size)).get? (s.heap.objs.size + 1) = some (PySem.W.instObj C s.heap.objs.size) := by
    have := Heap.get?_push_size (s.heap.push PySem.W.emptyDict) (o := PySem.W.instObj C s.heap.objs.size) rfl
    rwa [Heap.size_push] at this
  have e3 : (s.heap.push PySem.W.emptyDict).Ns s.heap.objs.size (fun _ => none) := ⟨PySem.W.emptyDict, #[], _, e1, rfl, (fun e he => absurd he (by simp)), fun _ => rfl⟩
  have I1 := I.laid (a := s.heap.objs.size) (o := .own (s.heap.objs.size + 1)) (h' := s.heap.push PySem.W.emptyDict) (t' := s.toks) (fun b u q => Heap.get?_push_of_some _ q) (Nat.le_refl _) ⟨_, e1⟩
  refine I1.laid (a := s.heap.objs.size + 1) (o := .ins C s.heap.objs.size []) (t' := s.toks) (fun b u q => Heap.get?_push_of_some _ q) (Nat.le_of_eq (Heap.size_push _ _)) ?_
  have ne : s.heap.objs.size ≠ s.heap.objs.size + 1 := Nat.ne_of_lt (Nat.lt_succ_self _)
  refine ⟨by rw [upd_ne ne, upd_same], Nat.zero_le _, ne, e2, fun _ => none, (Heap.Ns1.of_empty e3).at fun o q => Heap.get?_push_of_some _ q, fun _ => True.intro, fun y hy => absurd rfl hy⟩
theorem attr_of {prog : Program} {w : World} {env : Env} {e : Expr} {f : Str} {pos : Pos} {s : Shared} {Q : Value → Shared → Prop} (hb : attributeBase e f env (eval e env) = eval e env)
    (h : wpAny (model prog w) A (eval e env) (fun o s₁ => wpAny (model prog w) A (getAttr o f true) Q E s₁) E s) : wpAny (model prog w) A (eval (.Attribute e f pos) env) Q E s :=
  Attribute_any_ h (by rw [arm_eval_Attribute, hb])
end
/-! ### readings and rules -/
def tFld (K : PySem.W.Frag) (ta : TE) (f : Str) : TE := fun σ H Q => ta σ H fun x H1 => ∃ a C dx fs v, x = .ref a ∧ H1 a = some (.ins C dx fs) ∧ Cls K C ∧ NoAttr K C f ∧ fs.lookup f = some v ∧ Q v H1
def tCon (K : PySem.W.Frag) (ta : TE) (f : Str) : TE := fun σ H Q => ta σ H fun x H1 => ∃ a C dx fs v u, x = .ref a ∧ H1 a = some (.ins C dx fs) ∧ Cls K C ∧ Con K C f v u ∧ fs.lookup f = none ∧ Q v H1
def sFld (K : PySem.W.Frag) (ta tv : TE) (f : Str) : TS := fun D σ H => tv σ H fun y H1 => ta σ H1 fun x H2 => ∃ a C dx fs, x = .ref a ∧ H2 a = some (.ins C dx fs) ∧ Cls K C ∧ NoAttr K C f ∧ fs.length < 1000 ∧
  D.nx σ (upd H2 a (.ins C dx (putF f y fs)))
def InOp (X : Cx) (op : Operator) (rd : V → V → Hp → VK → Prop) : Prop :=
  ∀ (pins : List (Addr × Obj)) (s : Shared) (σ : St) (H : Hp) (x y : V) (u v : Value) (Q : VK), Inv X pins σ H s → RelV x u → RelV y v → rd x y H Q → wpAny (model X.prog X.w) X.A (inplaceOp op u v) (EP X pins σ Q) X.xe s
def sFldAug (K : PySem.W.Frag) (ta tv : TE) (rd : V → V → Hp → VK → Prop) (f : Str) : TS := fun D σ H => ta σ H fun x H1 => ∃ a C dx fs v, x = .ref a ∧ H1 a = some (.ins C dx fs) ∧ Cls K C ∧ NoAttr K C f ∧ fs.lookup f = some v ∧
  tv σ H1 fun y H2 => rd v y H2 fun z H3 => ∃ dx' fs', H3 a = some (.ins C dx' fs') ∧ fs'.length < 1000 ∧ D.nx σ (upd H3 a (.ins C dx' (putF f z fs')))
section
variable {X : Cx} {o e value : Expr} {f : Str} {pos pos' tpos : Pos} {ta tv : TE}
theorem pe_fld (he : PE X e ta) (hb : attributeBase e f X.env (eval e X.env) = eval e X.env) : PE X (.Attribute e f pos) (tFld X.K ta f) := by
  intro pins s σ H Q I h
  refine attr_of hb (thn (he pins s σ H _ I h) fun u s1 ⟨x, H1, I1, rx, a, C, dx, fs, v, ex, ea, c, n, l, q⟩ => ?_)
  subst ex
  obtain rfl : u = Value.ref a := rx
  exact getattr_ok I1 ea c n l fun u' s2 I2 ru => ⟨v, H1, I2, ru, q⟩
theorem ps_fld (ha : PE X o ta) (hv : PE X value tv) (hs : swapsWith value (some (.Attribute o f pos')) pos.line X.env = pure false) : PS X (.Assign [.Attribute o f pos'] value pos) (sFld X.K ta tv f) := by
  intro pins s σ H D I h
  refine plainObj_wpAny_Assign_Attribute (thn (hv pins s σ H _ I h) fun u s1 ⟨y, H1, I1, ry, q⟩ => thn (ha pins s1 σ H1 _ I1 q) fun ov s2 ⟨x, H2, I2, rx, a, C, dx, fs, ex, ea, c, n, l, q2⟩ => ?_) hs
  subst ex
  obtain rfl : ov = Value.ref a := rx
  exact setattr_ok I2 ea c n l ry fun s3 I3 => ⟨σ, _, I3, q2⟩
def rAdd : V → V → Hp → VK → Prop := fun x y H Q => ∃ i j, x = .int i ∧ y = .int j ∧ Q (.int (i + j)) H
def rSub : V → V → Hp → VK → Prop := fun x y H Q => ∃ i j, x = .int i ∧ y = .int j ∧ Q (.int (i - j)) H
end
end L2
namespace L2
open PySem PySem.Spec PyProof.Rows
/-! ### room -/
structure Room (k : Nat) (A : Around) : Prop where
  hd : A.handled = none
  dp : A.depth + 3 * k + 5 < recursionLimit
  un : A.units + 16 * k + 200 < cLine
theorem Room.mono {j k : Nat} {A : Around} (r : Room k A) (h : j ≤ k) : Room j A := ⟨r.hd, by have := r.dp; omega, by have := r.un; omega⟩
theorem Room.deeper {k : Nat} {A : Around} (r : Room (k + 1) A) (env : Env) : Room k (A.deeper env) :=
  ⟨r.hd, by have := r.dp; show A.depth + 1 + 3 * k + 5 < _; omega, by have := r.un; show A.units + 3 + 16 * k + 200 < _; omega⟩
theorem make_depth {A : Around} {C : Addr} {us : List Value} {kw : List (Str × Value)} : (A.under (.builtin "type.__call__" ⟨.ref C :: us, kw⟩)).depth = A.depth + 1 := by
  first | rfl | simp [Around.under, Code.weight, Code.isCreation, Code.isGuard, Code.isCaller, Code.frames, Code.isFrame, guardIds]
theorem make_units {A : Around} {C : Addr} {us : List Value} {kw : List (Str × Value)} : (A.under (.builtin "type.__call__" ⟨.ref C :: us, kw⟩)).units = A.units + 1 := by
  first | rfl | simp [Around.under, Code.cUnits, Code.frames, Code.isFrame]
theorem Room.make {k : Nat} {A : Around} (r : Room (k + 1) A) (C : Addr) (us : List Value) (kw : List (Str × Value)) : Room k (A.under (.builtin "type.__call__" ⟨.ref C :: us, kw⟩)) :=
  ⟨r.hd, by have := r.dp; rw [make_depth]; omega, by have := r.un; rw [make_units]; omega⟩
theorem Room.depth {k : Nat} {A : Around} (r : Room k A) : A.depth < recursionLimit := by have := r.dp; omega
/-! ### argument lists and displays -/
def tNil : TA := fun _ H Q => Q [] H
def tCons (ta : TE) (tr : TA) : TA := fun σ H Q => ta σ H fun x H1 => tr σ H1 fun xs H2 => Q (x :: xs) H2
section
variable {X : Cx} {e : Expr} {es : List Expr} {te : TE} {t : TA} {pos : Pos}
theorem pa_nil : PA X [] tNil := fun _ _ _ _ H Q I h => Calls.spliced_nil ⟨[], H, I, .nil, h⟩
theorem pa_cons (ha : PE X e te) (hr : PA X es t) (hs : starEach (e :: es) X.env = (false, eval e X.env) :: starEach es X.env := by rfl) : PA X (e :: es) (tCons te t) := by
  intro pos pins s σ H Q I h
  rw [hs]
  show wpAny _ _ (spliced ((false, eval e X.env) :: backTo pos (starEach es X.env))) _ _ s
  refine Calls.spliced_cons (thn (ha pins s σ H _ I h) fun u s1 ⟨x, H1, I1, r1, q1⟩ => ?_)
  exact thn (hr pos pins s1 σ H1 _ I1 q1) fun us s2 ⟨xs, H2, I2, r2, q2⟩ => ⟨x :: xs, H2, I2, .cons r1 r2, q2⟩
def tTup (t : TA) : TE := fun σ H Q => t σ H fun xs H1 => xs.length ≤ sizeLine ∧ ∀ p, H1 p = none → Q (.ref p) (upd H1 p (.tup xs))
def tLst (t : TA) : TE := fun σ H Q => t σ H fun xs H1 => xs.length ≤ sizeLine ∧ ∀ p, H1 p = none → Q (.ref p) (upd H1 p (.lst xs))
theorem pe_lst (h : PA X es t) : PE X (.List es pos) (tLst t) := by
  intro pins s σ H Q I hq
  refine wpAny_List_spliced (thn (h pos pins s σ H _ I hq) fun us s1 ⟨xs, H1, I1, r, z, q⟩ => ⟨by rw [← r.length]; exact z, ?_⟩)
  have hf : H1 s1.heap.objs.size = none := I1.hok.fresh (Nat.le_refl _)
  refine ⟨.ref s1.heap.objs.size, upd H1 s1.heap.objs.size (.lst xs), I1.laid (t' := s1.toks) (fun b u e => Heap.get?_push_of_some _ e) (Nat.le_refl _) ?_, rfl, q _ hf⟩
  exact ⟨z, us, 0, r, Heap.get?_push_size _ rfl⟩
end
/-! ### what a def promises -/
abbrev Sp := List V → Hp → VK → XK → Prop
abbrev CXT := List Env → Hp → Shared → XK → Value → Shared → Prop
structure Env0 (P : Program) (w : World) (K : PySem.W.Frag) (mg : Str → Option Value) (base : Heap) (A : Around) (outer : List Env) (s : Shared) (H : Hp) : Prop where
  frames : A.frames = some outer
  mod : Mod K mg base
  bs : ∀ b o, base.get? b = some o → s.heap.get? b = some o ∧ H b = none
  bsz : base.objs.size ≤ s.heap.objs.size
  funs : s.heap.FunFrames base outer
  frf : ∀ b ∈ frs outer, H b = none
  hok : HOk P w H s.heap
  bare : AllBare s.gens
def CE (outer : List Env) (P : Program) (w : World) (H : Hp) (s : Shared) (Q : VK) (u : Value) (s' : Shared) : Prop :=
  ∃ v H', s'.os = s.os ∧ AllBare s'.gens ∧ Un (frs outer) [] H H' s.heap s'.heap ∧ HOk P w H' s'.heap ∧ RelV v u ∧ Q v H'
def CR (CX : CXT) (outer : List Env) (P : Program) (w : World) (H : Hp) (s : Shared) (Q : VK) (E : XK) (r : Result) (s' : Shared) : Prop :=
  match r with
  | .ok (.ret u) => CE outer P w H s Q u s'
  | .ok _ => False
  | .error e => CX outer H s E e s'
structure FnOk (P : Program) (w : World) (K : PySem.W.Frag) (mg : Str → Option Value) (base : Heap) (CX : CXT) (k : Nat) (f : Addr) (fd : FuncData) (ps : List Str) (sp : Sp) : Prop where
  len : ∀ vs H Q E, sp vs H Q E → vs.length = ps.length
  run : ∀ (A : Around) (outer : List Env) (s : Shared) (H : Hp) (args : Args) (us : List Value) (vs : List V) (Q : VK) (E : XK), Room k A → Env0 P w K mg base A outer s H → BindsTo s fd args (ps.zip us) → Vals vs us → sp vs H Q E →
    codeAny (model P w) A (.call (.ref f) args) (CR CX outer P w H s Q E) s
theorem Env0.make {P : Program} {w : World} {K : PySem.W.Frag} {mg : Str → Option Value} {base : Heap} {A : Around} {outer : List Env} {s : Shared} {H : Hp} (e : Env0 P w K mg base A outer s H) (C : Addr) (us : List Value) (kw : List (Str × Value)) :
    Env0 P w K mg base (A.under (.builtin "type.__call__" ⟨.ref C :: us, kw⟩)) outer s H := ⟨by first | exact e.frames | (simpa [Around.under, Code.envs, Code.isFrame, pushEnvs] using e.frames), e.mod, e.bs, e.bsz, e.funs, e.frf, e.hok, e.bare⟩
section
variable {X : Cx} {pins : List (Addr × Obj)} {σ : St} {H : Hp} {s s' : Shared}
theorem Inv.env0 (I : Inv X pins σ H s) : Env0 X.prog X.w X.K X.mg X.base X.A X.stack s H :=
  ⟨I.ok.frames, I.ok.mod, I.bs, Nat.le_trans I.ok.bsz I.sz, I.stack, I.stkFree, I.hok, I.bare⟩
theorem Inv.after {Q : VK} {u : Value} (I : Inv X pins σ H s) (h : CE X.stack X.prog X.w H s Q u s') : EP X pins σ Q u s' := by
  obtain ⟨v, H', os, bare, un, hok, r, q⟩ := h
  obtain ⟨hh, g, d, t, os'⟩ := s'
  obtain rfl : os' = s.os := os
  exact ⟨v, H', I.call (h' := hh) (g' := g) (d' := d) (t' := t) (ch := []) un hok bare (fun b z => absurd z (by simp)), r, q⟩
end
/-! ### calls -/
def tCall (sp : Sp) (dvs : List V) (E : XK) (t : TA) : TE := fun σ H Q => t σ H fun vs H1 => sp (vs ++ dvs) H1 Q E
def tMeth (C : Addr) (m : Str) (sp : Sp) (dvs : List V) (E : XK) (ta : TE) (t : TA) : TE := fun σ H Q => ta σ H fun x H1 => ∃ a dx fs, x = .ref a ∧ H1 a = some (.ins C dx fs) ∧ fs.lookup m = none ∧
  t σ H1 fun vs H2 => sp (x :: (vs ++ dvs)) H2 Q E
def tMake (C : Addr) (sp : Sp) (dvs : List V) (E : XK) (t : TA) : TE := fun σ H Q => t σ H fun vs H1 => ∀ x dx, H1 x = none → H1 dx = none → dx ≠ x →
  sp (.ref x :: (vs ++ dvs)) (upd (upd H1 dx (.own x)) x (.ins C dx [])) (fun v H2 => v = .non ∧ Q (.ref x) H2) E
def Binds (K : PySem.W.Frag) (fd : FuncData) (ps : List Str) (ds : List Value) : Prop :=
  ∀ (s : Shared) (us : List Value), K.In s.heap → (us ++ ds).length = ps.length → BindsTo s fd ⟨us, []⟩ (ps.zip (us ++ ds))
theorem Binds.all {K : PySem.W.Frag} {fd : FuncData} {ps : List Str} (h : ∀ us : List Value, us.length = ps.length → bindArgs fd ⟨us, []⟩ = pure (ps.zip us)) : Binds K fd ps [] := fun s us _ hl => by
  rw [List.append_nil] at hl ⊢
  exact .of_eq (h us hl)
def Passes (CX : CXT) (X : Cx) (E : XK) : Prop := ∀ (pins : List (Addr × Obj)) (σ : St) (H : Hp) (s : Shared) (e : Value) (s' : Shared), Inv X pins σ H s → CX X.stack H s E e s' → X.xe e s'
section
variable {X : Cx} {CX : CXT} {k : Nat} {f C : Addr} {fd : FuncData} {ps : List Str} {sp : Sp} {dvs : List V} {ds : List Value} {E : XK} {x m : Str} {p pos apos : Pos} {e o : Expr} {es : List Expr} {ta : TE} {t : TA}
theorem run_fn {pins : List (Addr × Obj)} {σ : St} {H : Hp} {s : Shared} {Q : VK} {us : List Value} {vs : List V} (F : FnOk X.prog X.w X.K X.mg X.base CX k f fd ps sp) (hr : Room k X.A) (hb : Binds X.K fd ps ds) (hd : Vals dvs ds) (hx : Passes CX X E)
    (I : Inv X pins σ H s) (r : Vals vs us) (h : sp (vs ++ dvs) H Q E) : wpAny (model X.prog X.w) X.A (call (.ref f) us) (EP X pins σ Q) X.xe s := by
  have r2 : Vals (vs ++ dvs) (us ++ ds) := r.append hd
  have hl : (us ++ ds).length = ps.length := by rw [← r2.length]; exact F.len _ _ _ _ h
  refine wpAny_call (codeAny_mono (F.run X.A X.stack s H ⟨us, []⟩ (us ++ ds) (vs ++ dvs) Q E hr I.env0 (hb s us I.kIn hl) r2 h) fun r s' hq => ?_)
  cases r with
  | error e => exact hx pins σ H s e s' I hq
  | ok fl =>
    cases fl with
    | ret u => exact I.after hq
    | next => exact False.elim hq
    | brk => exact False.elim hq
    | cont => exact False.elim hq
theorem pe_call (F : FnOk X.prog X.w X.K X.mg X.base CX k f fd ps sp) (hr : Room k X.A) (hg : Gl X x) (hm : X.mg x = some (.ref f)) (hk : PySem.W.keepIn X.K (.ref f) = true) (hb : Binds X.K fd ps ds) (hd : Vals dvs ds) (hx : Passes CX X E)
    (ha : PA X (e :: es) t) (hdb : (x == ("__debug__" : Str)) = false := by decide) (he : starEach (e :: es) X.env = (false, eval e X.env) :: starEach es X.env := by rfl) (hpl : (backTo pos (starEach es X.env)).any (·.1) = false := by rfl) :
    PE X (.Call (.Name x p) (e :: es) [] pos) (tCall sp dvs E t) := by
  intro pins s σ H Q I h
  refine wpAny_Call_Name_kw (ld_glob I hg hm ?_ hdb)
  refine PySem.W.callWith_K (h₀ := X.base) I.ok.mod.kin hk (thn (ha pos pins s σ H _ I h) fun us s1 ⟨vs, H1, I1, r, q⟩ => ⟨I1.kIn, ?_⟩) he hpl
  exact run_fn F hr hb hd hx I1 r q
theorem pe_meth {pl : Sem Bool} (he : PE X o ta) (c : Cls X.K C) (hm : Meth X.K C m f) (F : FnOk X.prog X.w X.K X.mg X.base CX k f fd ps sp) (hr : Room k X.A) (hb : Binds X.K fd ps ds) (hd : Vals dvs ds) (hx : Passes CX X E) (ha : PA X (e :: es) t)
    (hst : starEach (e :: es) X.env = (false, eval e X.env) :: starEach es X.env := by rfl) (hpl : (backTo pos (starEach es X.env)).any (·.1) = false := by rfl)
    (ht : eval (.Call (.Attribute o m apos) (e :: es) [] pos) X.env = (do
      let ov ← eval o X.env
      standAt apos.atName
      let (f, first) ← holding [ov] (getMethod ov m pl)
      callWith pos f first (backTo pos (starEach (e :: es) X.env)) (backToKw pos (keywordEach [] X.env))) := by rfl) :
    PE X (.Call (.Attribute o m apos) (e :: es) [] pos) (tMeth C m sp dvs E ta t) := by
  intro pins s σ H Q I h
  refine PySem.W.methodCall_KW (pl := pl) (thn (he pins s σ H _ I h) fun u s1 ⟨x, H1, I1, rx, a, dx, fs, ex, ea, l, q⟩ => ?_) ht
  subst ex
  obtain rfl : u = Value.ref a := rx
  refine getmeth_ok I1 ea c hm l ?_
  refine PySem.W.callWith_K (first := [.ref a]) (h₀ := X.base) I.ok.mod.kin hm.kp (thn (ha pos pins s1 σ H1 _ I1 q) fun us s2 ⟨vs, H2, I2, r, q2⟩ => ⟨I2.kIn, ?_⟩) hst hpl
  exact run_fn (us := .ref a :: us) (vs := .ref a :: vs) F hr hb hd hx I2 (.cons rfl r) q2
theorem pe_meth0 {pl : Sem Bool} (he : PE X o ta) (c : Cls X.K C) (hm : Meth X.K C m f) (F : FnOk X.prog X.w X.K X.mg X.base CX k f fd ps sp) (hr : Room k X.A) (hb : Binds X.K fd ps ds) (hd : Vals dvs ds) (hx : Passes CX X E)
    (ht : eval (.Call (.Attribute o m apos) [] [] pos) X.env = (do
      let ov ← eval o X.env
      standAt apos.atName
      let (f, first) ← holding [ov] (getMethod ov m pl)
      callWith pos f first (backTo pos (starEach [] X.env)) (backToKw pos (keywordEach [] X.env))) := by rfl) :
    PE X (.Call (.Attribute o m apos) [] [] pos) (tMeth C m sp dvs E ta tNil) := by
  intro pins s σ H Q I h
  refine PySem.W.methodCall_KW (pl := pl) (thn (he pins s σ H _ I h) fun u s1 ⟨x, H1, I1, rx, a, dx, fs, ex, ea, l, q⟩ => ?_) ht
  subst ex
  obtain rfl : u = Value.ref a := rx
  refine getmeth_ok I1 ea c hm l ?_
  exact PySem.W.callWith_K0 (first := [.ref a]) I1.kIn hm.kp (run_fn (us := [.ref a]) (vs := [.ref a]) F hr hb hd hx I1 (.cons rfl .nil) q)
structure Mk (K : PySem.W.Frag) (C f : Addr) : Prop where
  makes : PySem.W.makesIn K C = true
  init : PySem.W.findIn K (.ref C) "__init__" = some (some (.ref f))
  fn : PySem.W.isFn K (.ref f) = true
  kp : PySem.W.keepIn K (.ref C) = true
theorem run_make {pins : List (Addr × Obj)} {σ : St} {H : Hp} {s : Shared} {Q : VK} {us : List Value} {vs : List V} (M : Mk X.K C f) (F : FnOk X.prog X.w X.K X.mg X.base CX k f fd ps sp) (hr : Room (k + 1) X.A) (hb : Binds X.K fd ps ds) (hd : Vals dvs ds)
    (hx : Passes CX X E) (I : Inv X pins σ H s) (r : Vals vs us)
    (h : ∀ x dx, H x = none → H dx = none → dx ≠ x → sp (.ref x :: (vs ++ dvs)) (upd (upd H dx (.own x)) x (.ins C dx [])) (fun v H2 => v = .non ∧ Q (.ref x) H2) E) :
    wpAny (model X.prog X.w) X.A (call (.ref C) us) (EP X pins σ Q) X.xe s := by
  have hq := h (s.heap.objs.size + 1) s.heap.objs.size (I.hok.fresh (Nat.le_succ _)) (I.hok.fresh (Nat.le_refl _)) (Nat.ne_of_lt (Nat.lt_succ_self _))
  have I2 := Inv.made (C := C) I
  have r2 : Vals (V.ref (s.heap.objs.size + 1) :: (vs ++ dvs)) (Value.ref (s.heap.objs.size + 1) :: (us ++ ds)) := .cons rfl (r.append hd)
  have hl : (Value.ref (s.heap.objs.size + 1) :: us ++ ds).length = ps.length := by
    have e := r2.length
    rw [F.len _ _ _ _ hq] at e
    exact e.symm
  refine wpAny_call (make_map (f := f) I.kIn M.makes M.init (beq_iff_eq.mp M.fn) (codeAny_mono (F.run _ X.stack _ _ ⟨Value.ref (s.heap.objs.size + 1) :: us, []⟩ (Value.ref (s.heap.objs.size + 1) :: (us ++ ds)) _ _ E (hr.make C us [])
    (I2.env0.make C us []) (hb _ (Value.ref (s.heap.objs.size + 1) :: us) I2.kIn hl) r2 hq) fun r s' hq' => ?_))
  cases r with
  | error e => exact hx pins σ _ _ e s' I2 hq'
  | ok fl =>
    cases fl with
    | ret u =>
      obtain ⟨v, H', I3, rv, ev, q3⟩ := I2.after hq'
      subst ev
      exact ⟨rv, ⟨V.ref (s.heap.objs.size + 1), H', I3, rfl, q3⟩⟩
    | next => exact False.elim hq'
    | brk => exact False.elim hq'
    | cont => exact False.elim hq'
theorem pe_make (M : Mk X.K C f) (F : FnOk X.prog X.w X.K X.mg X.base CX k f fd ps sp) (hr : Room (k + 1) X.A) (hg : Gl X x) (hm : X.mg x = some (.ref C)) (hb : Binds X.K fd ps ds) (hd : Vals dvs ds) (hx : Passes CX X E)
    (ha : PA X (e :: es) t) (hdb : (x == ("__debug__" : Str)) = false := by decide) (he : starEach (e :: es) X.env = (false, eval e X.env) :: starEach es X.env := by rfl) (hpl : (backTo pos (starEach es X.env)).any (·.1) = false := by rfl) :
    PE X (.Call (.Name x p) (e :: es) [] pos) (tMake C sp dvs E t) := by
  intro pins s σ H Q I h
  refine wpAny_Call_Name_kw (ld_glob I hg hm ?_ hdb)
  refine PySem.W.callWith_K (h₀ := X.base) I.ok.mod.kin M.kp (thn (ha pos pins s σ H _ I h) fun us s1 ⟨vs, H1, I1, r, q⟩ => ⟨I1.kIn, ?_⟩) he hpl
  exact run_make M F hr hb hd hx I1 r q
end
/-! ### keywords -/
def PK (X : Cx) (kws : List Keyword) (t : TA) : Prop :=
  ∀ (pos : Pos) (pins : List (Addr × Obj)) (s : Shared) (σ : St) (H : Hp) (Q : List V → Hp → Prop), Inv X pins σ H s → t σ H Q → wpAny (model X.prog X.w) X.A (evalAll ((backToKw pos (keywordEach kws X.env)).map (·.2))) (AP X pins σ Q) X.xe s
section
variable {X : Cx} {CX : CXT} {k : Nat} {f C : Addr} {fd : FuncData} {ps ks : List Str} {sp : Sp} {E : XK} {x m : Str} {p pos apos kpos : Pos} {e o : Expr} {es : List Expr} {kws : List Keyword} {te ta : TE} {t tk : TA} {nm : Option Str}
structure KBinds (K : PySem.W.Frag) (fd : FuncData) (ps ks : List Str) (g : List Value → List Value → List Value) (gV : List V → List V → List V) : Prop where
  to : ∀ (s : Shared) (us ws : List Value), K.In s.heap → (g us ws).length = ps.length → BindsTo s fd ⟨us, ks.zip ws⟩ (ps.zip (g us ws))
  rel : ∀ {vs : List V} {us : List Value} {zs : List V} {ws : List Value}, Vals vs us → Vals zs ws → Vals (gV vs zs) (g us ws)
def tCallK (sp : Sp) (gV : List V → List V → List V) (E : XK) (t tk : TA) : TE := fun σ H Q => t σ H fun vs H1 => tk σ H1 fun zs H2 => sp (gV vs zs) H2 Q E
variable {g : List Value → List Value → List Value} {gV : List V → List V → List V}
end
/-! ### a def's body keeps its promise -/
structure FnScope (N P : List Str) (sc : Scope) : Prop where
  kind : sc.kind = .function
  co : sc.isCoroutine = false
  gen : sc.isGenerator = false
  nd : N.Nodup
  pre : N.take P.length = P
  par : ∀ x ∈ P, sc.names.lookup x = some .local ∨ sc.names.lookup x = some .cell
  nofree : ∀ y ∈ sc.names, y.2 ≠ .free
theorem bindL_out {kindOf : Str → Option NameKind} {x : Str} : ∀ {binds : List (Str × Value)} {m : Str → Option Value}, (∀ v, (x, v) ∉ binds) → bindL kindOf binds m x = m x
  | [], _, _ => rfl
  | (n, v) :: r, m, h => by
    unfold bindL
    rw [bindL_out fun w hw => h w (List.mem_cons_of_mem _ hw)]
    split
    · have : x ≠ n := by rintro rfl; exact h v List.mem_cons_self
      simp [this]
    · rfl
theorem bindC_out {kindOf : Str → Option NameKind} {x : Str} : ∀ {binds : List (Str × Value)} {m : Str → Option Value}, (∀ v, (x, v) ∉ binds) → bindC kindOf binds m x = m x
  | [], _, _ => rfl
  | (n, v) :: r, m, h => by
    unfold bindC
    rw [bindC_out fun w hw => h w (List.mem_cons_of_mem _ hw)]
    split
    · rfl
    · have : x ≠ n := by rintro rfl; exact h v List.mem_cons_self
      simp [this]
theorem bindL_get {kindOf : Str → Option NameKind} {x : Str} {v : Value} : ∀ {P : List Str} {vs : List Value} {i : Nat} {m : Str → Option Value}, P.Nodup → P[i]? = some x → vs[i]? = some v → kindOf x = some .local →
    bindL kindOf (P.zip vs) m x = some v
  | [], _, _, _, _, h, _, _ => by simp at h
  | _ :: _, [], _, _, _, _, h, _ => by simp at h
  | p :: P, w :: vs, 0, m, nd, h1, h2, hk => by
    simp at h1 h2; subst h1; subst h2
    show bindL kindOf ((p, w) :: P.zip vs) m p = _
    unfold bindL
    rw [bindL_out fun v hv => (List.nodup_cons.mp nd).1 (List.of_mem_zip hv).1, if_pos hk]
    simp
  | p :: P, w :: vs, i + 1, m, nd, h1, h2, hk => by
    show bindL kindOf ((p, w) :: P.zip vs) m x = _
    unfold bindL
    exact bindL_get (i := i) (List.nodup_cons.mp nd).2 (by simpa using h1) (by simpa using h2) hk
theorem bindC_get {kindOf : Str → Option NameKind} {x : Str} {v : Value} : ∀ {P : List Str} {vs : List Value} {i : Nat} {m : Str → Option Value}, P.Nodup → P[i]? = some x → vs[i]? = some v → kindOf x ≠ some .local →
    bindC kindOf (P.zip vs) m x = some v
  | [], _, _, _, _, h, _, _ => by simp at h
  | _ :: _, [], _, _, _, _, h, _ => by simp at h
  | p :: P, w :: vs, 0, m, nd, h1, h2, hk => by
    simp at h1 h2; subst h1; subst h2
    show bindC kindOf ((p, w) :: P.zip vs) m p = _
    unfold bindC
    rw [bindC_out fun v hv => (List.nodup_cons.mp nd).1 (List.of_mem_zip hv).1, if_neg hk]
    simp
  | p :: P, w :: vs, i + 1, m, nd, h1, h2, hk => by
    show bindC kindOf ((p, w) :: P.zip vs) m x = _
    unfold bindC
    exact bindC_get (i := i) (List.nodup_cons.mp nd).2 (by simpa using h1) (by simpa using h2) hk
def start (N : List Str) (vs : List V) : St := vs.map some ++ List.replicate (N.length - vs.length) none
def cxOf (CX : CXT) (P : Program) (w : World) (K : PySem.W.Frag) (mg : Str → Option Value) (base : Heap) (N : List Str) (qual : Str) (scope : Scope) (f : Addr) (cd : Value) (A : Around) (outer : List Env) (s : Shared) (H : Hp) (E : XK) : Cx where
  prog := P
  w := w
  K := K
  mg := mg
  base := base
  A := A.deeper (envOfC qual scope s.heap.objs.size f cd)
  N := N
  s_0 := s
  H_0 := H
  env := envOfC qual scope s.heap.objs.size f cd
  outer := outer
  stack := envOfC qual scope s.heap.objs.size f cd :: outer
  ex := []
  calm := true
  fn := fun _ => true
  pn := []
  xe := fun e s' => wpAny (model P w) (A.deeper (envOfC qual scope s.heap.objs.size f cd)) (leaving (envOfC qual scope s.heap.objs.size f cd) e) (fun _ s'' => CX outer H s E e s'') (fun e' s'' => CX outer H s E e' s'') s'
theorem cell_has {sc : Scope} {n : Nat} {x : Str} (h : sc.names.lookup x = some .cell) : ∃ c, (cellsFrom n sc.names []).lookup x = some c := by
  have q := PySem.W.cellsFrom_some sc.names n [] (.inl h)
  exact Option.isSome_iff_exists.mp q
theorem inv_start {CX : CXT} {P : Program} {w : World} {K : PySem.W.Frag} {mg : Str → Option Value} {base : Heap} {N ps : List Str} {qual : Str} {scope : Scope} {f : Addr} {cd : Value} {A : Around} {outer : List Env} {s s1 : Shared} {H : Hp} {E : XK} {us : List Value} {vs : List V}
    (S : FnScope N ps scope) (hd : A.handled = none) (e0 : Env0 P w K mg base A outer s H) (hl : vs.length = ps.length) (r : Vals vs us)
    (x : InCallC s s.heap.objs.size (bindL (envOfC qual scope s.heap.objs.size f cd).kindOf (ps.zip us) fun _ => none) (cellsFrom (s.heap.objs.size + 1) scope.names []) (bindC (envOfC qual scope s.heap.objs.size f cd).kindOf (ps.zip us) fun _ => none) s1) :
    Inv (cxOf CX P w K mg base N qual scope f cd A outer s H E) [] (start N vs) H s1 := by
  have hpl : ps.length ≤ N.length := by have := congrArg List.length S.pre; rw [List.length_take] at this; omega
  obtain ⟨h1, tk, rfl, hk⟩ := x.done
  have noA : ∀ b : Addr, b ∉ (cxOf CX P w K mg base N qual scope f cd A outer s H E).ex := fun b z => absurd (show b ∈ ([] : List Addr) from z) (by simp)
  refine ⟨⟨e0.mod, S.kind, rfl, rfl, Nat.le_refl _, fun y z c h1 h2 => ?_, fun y hy => ?_, fun y c _ h => ?_, fun _ => hd, Around.frames_deeper e0.frames, .inr ⟨rfl, rfl⟩, fun b z => absurd z (noA b), e0.bs, e0.bsz, fun b _ _ => noA b, fun b z => absurd z (noA b), e0.funs, e0.frf⟩,
    rfl, e0.bare, Un.kept hk, ⟨_, x.toInCall.ns, fun i y v h1 h2 h3 => ?_⟩, fun y c h => ⟨_, x.cell y c h⟩, e0.hok.fresh (Nat.le_refl _), fun y c h => ?_, fun p hp => absurd (show p ∈ ([] : List (Addr × Obj)) from hp) (by simp), e0.hok.kept hk, ?_⟩
  · exact name_of_addr x.apart (PySem.mem_of_lookup h1) (PySem.mem_of_lookup h2)
  · have hy : scope.names.lookup y = some .cell ∨ scope.names.lookup y = some .free := hy
    rcases hy with hy | hy
    · exact cell_has hy
    · exact absurd rfl (S.nofree _ (PySem.mem_of_lookup hy))
  · exact Nat.le_of_lt (x.above y c (PySem.mem_of_lookup h))
  · have hi : i < vs.length := by
      unfold start at h2
      by_cases hi : i < vs.length
      · exact hi
      · rw [List.getElem?_append_right (by simpa using hi)] at h2
        rw [List.getElem?_replicate] at h2
        split at h2 <;> cases h2
    have ha : vs[i]? = some v := by
      unfold start at h2
      rw [List.getElem?_append_left (by simpa using hi), List.getElem?_map] at h2
      cases e : vs[i]? with
      | none => rw [e] at h2; cases h2
      | some a => rw [e] at h2; cases h2; rfl
    obtain ⟨u, hu, rv⟩ := r.get ha
    have hp : ps[i]? = some y := by
      rw [← S.pre, List.getElem?_take_of_lt (by omega)]; exact h1
    have ndP : ps.Nodup := by rw [← S.pre]; exact S.nd.sublist (List.take_sublist _ _)
    refine ⟨u, rv, ?_⟩
    rcases S.par y (List.mem_of_getElem? hp) with k | k
    · exact .inl ⟨k, bindL_get ndP hp hu k⟩
    · obtain ⟨c, e⟩ := cell_has (n := s.heap.objs.size + 1) k
      refine .inr ⟨.inl k, c, e, ?_⟩
      have q := x.cell y c e
      rw [bindC_get ndP hp hu (by show scope.names.lookup y ≠ _; rw [k]; decide)] at q
      exact q
  · exact e0.hok.fresh (Nat.le_of_lt (x.above y c (PySem.mem_of_lookup h)))
  · unfold start
    show _ = N.length
    rw [List.length_append, List.length_map, List.length_replicate]
    omega
theorem fn_of {CX : CXT} {P : Program} {w : World} {K : PySem.W.Frag} {mg : Str → Option Value} {base : Heap} {k : Nat} {f : Addr} {name qual : Str} {params : Arguments} {body : List Stmt} {scope : Scope} {dV kV doc pm cdv ct oc : Value} {an od : Option Addr}
    {osl : Array (Option Value)} {N ps : List Str} {sp : Sp} (lk : K.lookup f = some ⟨oc, od, .func (PySem.W.fnOf name qual params body scope dV kV doc pm an cdv ct), osl⟩) (hcd : PySem.W.codeIn K cdv qual = true) (S : FnScope N ps scope)
    (len : ∀ vs H Q E, sp vs H Q E → vs.length = ps.length)
    (hbody : ∀ (A : Around) (outer : List Env) (s : Shared) (H : Hp) (vs : List V) (Q : VK) (E : XK), Room k (A.deeper (envOfC qual scope s.heap.objs.size f cdv)) → sp vs H Q E →
      ∃ t, PSs (cxOf CX P w K mg base N qual scope f cdv A outer s H E) body t ∧ t { nx := fun _ H' => Q .non H', rt := Q } (start N vs) H) :
    FnOk P w K mg base CX (k + 1) f (PySem.W.fnOf name qual params body scope dV kV doc pm an cdv ct) ps sp := by
  refine ⟨len, fun A outer s H args us vs Q E hr e0 hb r hsp => ?_⟩
  have hl := len _ _ _ _ hsp
  have KX : K.In s.heap := e0.mod.kin.keeps fun b o e => (e0.bs b o e).1
  have lim : s.heap.NoLimit := e0.mod.nolimit.keeps fun b o e => (e0.bs b o e).1
  have hkind : ∀ y ∈ ps.zip us, scope.names.lookup y.1 = some .local ∨ (scope.names.lookup y.1 = some .cell ∧ ((cellsFrom (s.heap.objs.size + 1) scope.names []).lookup y.1).isSome = true) := fun ⟨n, v⟩ hy => by
    rcases S.par n (List.of_mem_zip hy).1 with q | q
    · exact .inl q
    · exact .inr ⟨q, PySem.W.cellsFrom_some _ _ _ (.inl q)⟩
  refine codeAny_call_function hr.depth (KX _ _ lk) rfl S.co S.gen rfl (PySem.W.codeRec_of KX hcd) (hb _ _ _ _ ?_)
  refine wpAny_newFunctionEnv_cells S.kind hkind fun env he s1 x => ?_
  subst he
  refine ⟨lim.keeps x.toInCall.keep, codeAny_func ?_⟩
  obtain ⟨t, ht, hq⟩ := hbody A outer s H vs Q E (hr.deeper _) hsp
  have I : Inv (cxOf CX P w K mg base N qual scope f cdv A outer s H E) [] (start N vs) H s1 := inv_start S hr.hd e0 hl r x
  refine wpAny_mono (ht [] s1 (start N vs) H _ I hq) (fun fl s' hs => ?_) fun e s' hs => hs
  have fin : ∀ {σ' : St} {H' : Hp} {v : V} {u : Value}, Inv (cxOf CX P w K mg base N qual scope f cdv A outer s H E) [] σ' H' s' → RelV v u → Q v H' → CE outer P w H s Q u s' :=
    fun {σ' H' v u} J rv q => ⟨v, H', J.os, J.bare, J.base, J.hok, rv, q⟩
  cases fl with
  | ret u =>
    obtain ⟨v, σ', H', J, rv, q⟩ := hs
    exact fin J rv q
  | next =>
    obtain ⟨σ', H', J, q⟩ := hs
    exact fin (v := V.non) (u := Value.none) J rfl q
  | brk =>
    obtain ⟨_, _, _, q⟩ := hs
    exact False.elim q
  | cont =>
    obtain ⟨_, _, _, q⟩ := hs
    exact False.elim q
end L2
namespace L2
open PySem PySem.Spec PyProof.Rows
section
variable {X : Cx} {x : Str} {p pos : Pos} {e : Expr} {es : List Expr} {t : TA} {id T : String} {r : List V → Hp → VK → Prop}
def tCB (r : List V → Hp → VK → Prop) (t : TA) : TE := fun σ H Q => t σ H fun vs H1 => r vs H1 Q
theorem pe_callB (hc : CallR X (.builtin id) r) (hg : Gl X x) (hm : X.mg x = none) (hv : bootBuiltins x = some (.builtin id)) (ha : PA X (e :: es) t) (hn : x ≠ "__name__" := by decide) (hdb : (x == ("__debug__" : Str)) = false := by decide)
    (he : starEach (e :: es) X.env = (false, eval e X.env) :: starEach es X.env := by rfl) (hpl : (backTo pos (starEach es X.env)).any (·.1) = false := by rfl) : PE X (.Call (.Name x p) (e :: es) [] pos) (tCB r t) := by
  intro pins s σ H Q I h
  refine wpAny_Call_Name_kw (ld_blt I hg hm hv ?_ hn hdb)
  exact PyProof.Rows.callWith_builtin1 (thn (ha pos pins s σ H _ I h) fun us s1 ⟨vs, H1, I1, r1, q1⟩ => hc pins s1 σ H1 vs us Q I1 r1 q1) he hpl
end
end L2
namespace HT
open PySem PyProof.Rows
def lexLt : List Int → List Int → Bool
  | [], [] => false
  | [], _ :: _ => true
  | _ :: _, [] => false
  | x :: xs, y :: ys => if x = y then lexLt xs ys else decide (x < y)
section
open PySem.SeqAt
open PySem.AutoSeq1 (wpAny_loadPart')
open PySem.MeetsSeq PySem.MeetsSeq2 PySem.MeetsSeq3
end
section
variable {prog : Program} {w : World} {A : Around} {E : Value → Shared → Prop} {s : Shared}
/-! ### t[a:b], not the whole -/
def sIx (n d : Nat) : Option Int → Nat
  | none => d
  | some v => if v < 0 then (v + (n : Int)).toNat else min v.toNat n
end
end HT
namespace L2
open PySem PySem.Spec PyProof.Rows
/-! ### the parts of a slice -/
abbrev TO := St → Hp → (Option Int → Hp → Prop) → Prop
def PO (X : Cx) (e : Option Expr) (t : TO) : Prop :=
  ∀ (pins : List (Addr × Obj)) (s : Shared) (σ : St) (H : Hp) (Q : Option Int → Hp → Prop), Inv X pins σ H s → t σ H Q →
    wpAny (model X.prog X.w) X.A (evalPart e X.env) (fun u s' => ∃ o H', Inv X pins σ H' s' ∧ IsPart u o ∧ Q o H') X.xe s
def tNoPart : TO := fun _ H Q => Q none H
def tPart (t : TE) : TO := fun σ H Q => t σ H fun x H1 => ∃ i, x = .int i ∧ Q (some i) H1
section
variable {X : Cx} {e : Expr} {te : TE} {lo hi : Option Expr} {tl th : TO} {pos p2 : Pos}
def SlR (X : Cx) (r : V → Option Int → Option Int → Hp → VK → Prop) : Prop :=
  ∀ (pins : List (Addr × Obj)) (s : Shared) (σ : St) (H : Hp) (x : V) (v vl vu : Value) (lo hi : Option Int) (sl : Addr) (Q : VK), Inv X pins σ H s → RelV x v → s.heap.IsSliceOf sl vl vu .none → IsPart vl lo → IsPart vu hi → r x lo hi H Q →
    ∃ T id, typeLookup (.type T) "__getitem__" = pure (some (.builtin id)) ∧ s.TypeIs v T ∧ wpAny (model X.prog X.w) X.A (getItem v (.ref sl)) (EP X pins σ Q) X.xe s
def tSl (r : V → Option Int → Option Int → Hp → VK → Prop) (te : TE) (tl th : TO) : TE := fun σ H Q => te σ H fun x H1 => tl σ H1 fun l H2 => th σ H2 fun u H3 => r x l u H3 Q
def cutV (xs : List V) (lo hi : Option Int) : List V := (xs.drop (HT.sIx xs.length 0 lo)).take (HT.sIx xs.length xs.length hi - HT.sIx xs.length 0 lo)
def rSlT (K : PySem.W.Frag) : V → Option Int → Option Int → Hp → VK → Prop := fun x lo hi H Q => ∃ a xs, x = .ref a ∧ SqT K H a xs ∧
  ¬ (HT.sIx xs.length 0 lo = 0 ∧ HT.sIx xs.length xs.length hi = xs.length) ∧ ∀ p, H p = none → Q (.ref p) (upd H p (.tup (cutV xs lo hi)))
/-! ### t < u, t + u -/
def rLtT (K : PySem.W.Frag) : R2 := fun x y H Q => ∃ a b ns ms, x = .ref a ∧ y = .ref b ∧ SqT K H a (ns.map V.int) ∧ SqT K H b (ms.map V.int) ∧ Q (.bl (HT.lexLt ns ms)) H
def rCatT (K : PySem.W.Frag) : R2 := fun x y H Q => ∃ a b xs ys, x = .ref a ∧ y = .ref b ∧ SqT K H a xs ∧ SqT K H b ys ∧ xs ≠ [] ∧ xs.length + ys.length ≤ sizeLine ∧
  (ys = [] → Q (.ref a) H) ∧ (ys ≠ [] → ∀ p, H p = none → Q (.ref p) (upd H p (.tup (xs ++ ys))))
end
end L2
namespace L2
open PySem PySem.Spec PyProof.Rows
/-! ### places -/
def ixN (n : Nat) (i : Int) : Option Nat := if 0 ≤ i then (if i < n then some i.toNat else none) else if -(n : Int) ≤ i then some (i + n).toNat else none
def atI {α : Type} (xs : List α) (i : Int) : Option α := (ixN xs.length i).bind fun j => xs[j]?
theorem ixN_seq {n : Nat} {i : Int} {j : Nat} (h : ixN n i = some j) : seqIndex? i n = some j ∧ j < n ∧ -(n : Int) ≤ i ∧ i < n := by
  unfold ixN at h
  by_cases h0 : 0 ≤ i
  · rw [if_pos h0] at h
    by_cases h1 : i < n
    · rw [if_pos h1] at h
      have e : i.toNat = j := Option.some.inj h
      exact ⟨by rw [seqIndex_of h0 h1, e], by omega, by omega, h1⟩
    · rw [if_neg h1] at h; cases h
  · rw [if_neg h0] at h
    by_cases h1 : -(n : Int) ≤ i
    · rw [if_pos h1] at h
      have e : (i + n).toNat = j := Option.some.inj h
      exact ⟨by rw [seqIndex_neg (by omega) h1, e], by omega, h1, by omega⟩
    · rw [if_neg h1] at h; cases h
theorem atI_get {α : Type} {xs : List α} {i : Int} {v : α} (h : atI xs i = some v) : ∃ j, seqIndex? i xs.length = some j ∧ xs[j]? = some v ∧ j < xs.length ∧ -(xs.length : Int) ≤ i ∧ i < xs.length := by
  unfold atI at h
  cases e : ixN xs.length i with
  | none => rw [e] at h; cases h
  | some j =>
    rw [e] at h
    obtain ⟨h1, h2, h3, h4⟩ := ixN_seq e
    exact ⟨j, h1, h, h2, h3, h4⟩
theorem atI_nat {α : Type} {xs : List α} {j : Nat} {v : α} (h : xs[j]? = some v) : atI xs (j : Int) = some v := by
  have hj : j < xs.length := (List.getElem?_eq_some_iff.mp h).1
  have e : ixN xs.length (j : Int) = some j := by
    unfold ixN
    rw [if_pos (by omega), if_pos (by omega)]; simp
  unfold atI; rw [e]; exact h
/-! ### what may be subscripted -/
def PlainIx (b : Expr) : Prop := ∀ o i, subscripted b false o i = operate [o, i] (getItem o i)
def IxR (X : Cx) (r : R2) : Prop :=
  ∀ (value slice : Expr) (pins : List (Addr × Obj)) (s : Shared) (σ : St) (H : Hp) (x y : V) (v u : Value) (Q : VK), Inv X pins σ H s → RelV x v → RelV y u → r x y H Q →
    subscripted slice false v u = operate [v, u] (getItem v u) → wpAny (model X.prog X.w) X.A (subscriptTail value slice v u) (EP X pins σ Q) X.xe s
def MtR (X : Cx) (id : String) (r : V → List V → Hp → VK → Prop) : Prop :=
  ∀ (pins : List (Addr × Obj)) (s : Shared) (σ : St) (H : Hp) (x : V) (xs : List V) (v : Value) (us : List Value) (Q : VK), Inv X pins σ H s → RelV x v → Vals xs us → r x xs H Q →
    wpAny (model X.prog X.w) X.A (call (.builtin id) (v :: us)) (EP X pins σ Q) X.xe s
section
variable {X : Cx} {a b : Expr} {ta tb : TE} {pos : Pos}
theorem pe_ix {r : R2} (hr : IxR X r) (ha : PE X a ta) (hb : PE X b tb) (hs : PlainIx b) : PE X (.Subscript a b pos) (tOp r ta tb) := by
  intro pins s σ H Q I h
  exact Subscript_ (binT ha hb I h fun v u s2 x y H2 I2 rx ry q => hr a b pins s2 σ H2 x y v u Q I2 rx ry q (hs _ _))
def rIxL (K : PySem.W.Frag) : R2 := fun x y H Q => ∃ p xs i v, x = .ref p ∧ y = .int i ∧ SqL K H p xs ∧ atI xs i = some v ∧ Q v H
def rIxT (K : PySem.W.Frag) : R2 := fun x y H Q => ∃ p xs i v, x = .ref p ∧ y = .int i ∧ SqT K H p xs ∧ atI xs i = some v ∧ Q v H
def rIxS : R2 := fun x y H Q => ∃ z i c, x = .str z ∧ y = .int i ∧ z.length ≤ sizeLine ∧ atI z.cps.toList i = some c ∧ Q (.str ⟨#[c]⟩) H
theorem ix_list : IxR X (rIxL X.K) := by
  intro value slice pins s σ H x y v u Q I rx ry h hs
  obtain ⟨p, xs, i, z, rfl, rfl, hq, he, q⟩ := h
  cases rx
  obtain ⟨t, rfl⟩ := ry
  obtain ⟨its, r, pl, hz⟩ := I.list hq
  obtain ⟨j, h1, h2, h3, h4, h5⟩ := atI_get he
  obtain ⟨w, ew, rw'⟩ := r.get h2
  have hl := r.length
  have hn := line63
  have fin : EP X pins σ Q w s := ⟨z, H, I, rw', q⟩
  by_cases h0 : 0 ≤ i
  · have hj : i.toNat = j := by
      rw [seqIndex_of h0 h5] at h1
      exact Option.some.inj h1
    exact item_listR pl.isList h0 (by omega) (by rw [hj]; simpa using ew) fin hs
  · have hj : (i + (its.toArray.size : Int)).toNat = j := by
      rw [seqIndex_neg (by omega) h4] at h1
      rw [List.size_toArray, ← hl]
      exact Option.some.inj h1
    exact subscriptTail_builtinR (x := w) pl.isList.typeIs slot_list_getitem.lookup
      (wpAny_getItem_list_neg (Q := fun r s' => r = w ∧ EP X pins σ Q r s') pl.isList (by omega) (by rw [List.size_toArray] <;> omega) (by omega) (by rw [hj]; simpa using ew) ⟨rfl, fin⟩) hs
def rIx (K : PySem.W.Frag) : R2 := fun x y H Q => rIxL K x y H Q ∨ rIxT K x y H Q ∨ rIxS x y H Q
/-! ### xs[i] = v, any sign -/
def rSetL : V → V → V → Hp → (Hp → Prop) → Prop := fun o i v H Q => ∃ p xs k j, o = .ref p ∧ i = .int k ∧ H p = some (.lst xs) ∧ ixN xs.length k = some j ∧ Q (upd H p (.lst (xs.set j v)))
/-! ### slices -/
def rSlL (K : PySem.W.Frag) : V → Option Int → Option Int → Hp → VK → Prop := fun x lo hi H Q => ∃ a xs, x = .ref a ∧ SqL K H a xs ∧ ∀ p, H p = none → Q (.ref p) (upd H p (.lst (cutV xs lo hi)))
/-! ### in, not in: flat items -/
def flatV : V → Bool
  | .non => true
  | .bl _ => true
  | .int _ => true
  | .str _ => true
  | _ => false
def eqV : V → V → Bool
  | .non, .non => true
  | .bl a, .bl b => a == b
  | .bl a, .int b => (if a then 1 else 0) == b
  | .int a, .bl b => a == (if b then 1 else 0)
  | .int a, .int b => a == b
  | .str a, .str b => a == b
  | _, _ => false
def eqU (x : V) (u : Value) : Bool := match u with
  | .none => eqV .non x
  | .bool b => eqV (.bl b) x
  | .int i _ => eqV (.int i) x
  | .str z _ => eqV (.str z) x
  | _ => false
def inV (x : V) (xs : List V) : Bool := xs.any fun y => eqV y x
def rIn (K : PySem.W.Frag) (neg : Bool) : R2 := fun x y H Q => ∃ p xs, y = .ref p ∧ (SqL K H p xs ∨ SqT K H p xs) ∧ flatV x = true ∧ xs.all flatV = true ∧ Q (.bl (if neg then !inV x xs else inV x xs)) H
/-! ### len, list(x), tuple(x) of any list or tuple that is read -/
theorem call_len_seq : CallR X (.builtin "len") (fun xs H Q => ∃ p ys, xs = [.ref p] ∧ (SqL X.K H p ys ∨ SqT X.K H p ys) ∧ Q (.int ys.length) H) := by
  intro pins s σ H xs us Q I r h
  obtain ⟨p, ys, rfl, hq, q⟩ := h
  obtain ⟨u, rfl, rx⟩ := vals1 r
  cases rx
  have hn := line63
  rcases hq with hq | hq
  · obtain ⟨its, r', pl, hz⟩ := I.list hq
    have hlen := r'.length
    exact Calls.call_len_list pl.isList (by simp only [List.size_toArray] <;> omega) ⟨.int ys.length, H, I.tok _, ⟨s.toks + 1, by rw [List.size_toArray, hlen]⟩, q⟩
  · obtain ⟨its, r', pl, hz⟩ := I.tuple hq
    have hlen := r'.length
    exact len_tuple pl (by simp only [List.size_toArray] <;> omega) ⟨.int ys.length, H, I.tok _, ⟨s.toks + 1, by rw [List.size_toArray, hlen]⟩, q⟩
/-! ### the call of a builtin's method: o.m(..) -/
def tyV (K : PySem.W.Frag) (T : String) (x : V) (H : Hp) : Prop := match x with
  | .str _ => T = "str"
  | .int _ => T = "int"
  | .ref p => (T = "list" ∧ ∃ xs, SqL K H p xs) ∨ (T = "tuple" ∧ ∃ o, K.lookup p = some o ∧ o.cls = .type "tuple" ∧ o.dict = none) ∨
      (T = "dict" ∧ ((∃ kvs, H p = some (.dK kvs)) ∨ ∃ kvs, H p = some (.dT kvs))) ∨ (T = "set" ∧ ∃ S n, H p = some (.set S n))
  | _ => False
theorem tyV_is {pins : List (Addr × Obj)} {σ : St} {H : Hp} {s : Shared} {T : String} {x : V} {v : Value} (I : Inv X pins σ H s) (r : RelV x v) (ty : tyV X.K T x H) :
    s.TypeIs v T ∧ ∀ a, v = .ref a → ∃ ob, s.heap.get? a = some ob ∧ ob.dict = none := by
  cases x with
  | str z =>
    obtain ⟨t, rfl⟩ := r
    cases (show T = "str" from ty)
    exact ⟨typeIs_str s z t, fun _ e => nomatch e⟩
  | int i =>
    obtain ⟨t, rfl⟩ := r
    cases (show T = "int" from ty)
    exact ⟨typeIs_int s i t, fun _ e => nomatch e⟩
  | ref p =>
    cases r
    rcases ty with ⟨rfl, xs, hq⟩ | ⟨rfl, o, hk, hc, hd⟩ | ⟨rfl, hk⟩ | ⟨rfl, S, n, hk⟩
    · obtain ⟨its, _, pl, _⟩ := I.list hq
      refine ⟨pl.isList.typeIs, fun a e => ?_⟩
      cases e
      obtain ⟨o, n, e, c, hd, _⟩ := pl
      exact ⟨o, e, hd⟩
    · refine ⟨⟨o, I.kIn p o hk, hc⟩, fun a e => ?_⟩
      cases e
      exact ⟨o, I.kIn _ o hk, hd⟩
    · have z : ∃ o, s.heap.get? p = some o ∧ o.ExactDict := by
        rcases hk with ⟨kvs, hk⟩ | ⟨kvs, hk⟩
        · obtain ⟨_, _, _, _, o, _, _, e, ex, _⟩ := I.hok p _ hk
          exact ⟨o, e, ex⟩
        · obtain ⟨_, _, _, _, o, _, _, e, ex, _⟩ := I.hok p _ hk
          exact ⟨o, e, ex⟩
      obtain ⟨o, e, ex⟩ := z
      refine ⟨⟨o, e, ex.1⟩, fun a e2 => ?_⟩
      cases e2
      exact ⟨o, e, ex.2.1⟩
    · obtain ⟨o, _, _, _, e, ex, _⟩ := I.hok p _ hk
      refine ⟨⟨o, e, ex.1⟩, fun a e2 => ?_⟩
      cases e2
      exact ⟨o, e, ex.2.1⟩
  | _ => exact False.elim ty
def tBM0 (K : PySem.W.Frag) (T : String) (r : V → List V → Hp → VK → Prop) (to : TE) : TE := fun σ H Q => to σ H fun x H1 => tyV K T x H1 ∧ r x [] H1 Q
def tBM (K : PySem.W.Frag) (T : String) (r : V → List V → Hp → VK → Prop) (to : TE) (t : TA) : TE := fun σ H Q => to σ H fun x H1 => tyV K T x H1 ∧ t σ H1 fun xs H2 => r x xs H2 Q
variable {o e : Expr} {es : List Expr} {to : TE} {t : TA} {name : Str} {apos cpos : Pos} {T id : String} {r : V → List V → Hp → VK → Prop}
theorem pe_bm0 (pa : PlainAttrs T) (slot : Slot T name id) (hty : typeOf (.builtin id) = pure (.type "method_descriptor")) (hm : MtR X id r) (ho : PE X o to)
    (hbase : attributeBase o name X.env (eval o X.env) = eval o X.env := by rfl) (hline : (apos.endLine == cpos.line) = true := by rfl) : PE X (.Call (.Attribute o name apos) [] [] cpos) (tBM0 X.K T r to) := by
  intro pins s σ H Q I h
  refine wpAny_Call_method0_late hbase hline (thn (ho pins s σ H _ I h) fun v s1 ⟨x, H1, I1, r1, ty, q1⟩ => ?_)
  obtain ⟨h1, h2⟩ := tyV_is I1 r1 ty
  exact ⟨T, id, pa, slot, hty, h1, h2, Calls.callWith_builtin rfl (PySem.evalArgs_none (hm pins s1 σ H1 x [] v [] Q I1 r1 .nil q1))⟩
theorem pe_bm (pa : PlainAttrs T) (slot : Slot T name id) (hty : typeOf (.builtin id) = pure (.type "method_descriptor")) (hm : MtR X id r) (ho : PE X o to) (ha : PA X (e :: es) t)
    (hbase : attributeBase o name X.env (eval o X.env) = eval o X.env := by rfl)
    (hfew : ((backTo cpos (starEach (e :: es) X.env)).all (fun x => !x.1) && (backToKw cpos (keywordEach [] X.env)).all (fun x => x.1.isSome)
      && decide ((e :: es).length + ([] : List Keyword).length + (if ([] : List Keyword).isEmpty then 0 else 1) < 30)) = true := by rfl)
    (hline : (apos.endLine == cpos.line) = true := by rfl) (hs : starEach (e :: es) X.env = (false, eval e X.env) :: starEach es X.env := by rfl) (hplain : (backTo cpos (starEach es X.env)).any (·.1) = false := by rfl) :
    PE X (.Call (.Attribute o name apos) (e :: es) [] cpos) (tBM X.K T r to t) := by
  intro pins s σ H Q I h
  refine wpAny_Call_method_late hbase hfew hline rfl (thn (ho pins s σ H _ I h) fun v s1 ⟨x, H1, I1, r1, ty, q1⟩ => ?_)
  obtain ⟨h1, h2⟩ := tyV_is I1 r1 ty
  refine ⟨T, id, pa, slot, hty, h1, h2, ?_⟩
  have hA := ha cpos pins s1 σ H1 _ I1 q1
  rw [hs] at hA ⊢
  refine Calls.callWith_builtin (by show (false || (backTo cpos (starEach es X.env)).any (·.1)) = false; rw [hplain] <;> rfl) (Calls.evalArgs_plain ?_)
  exact thn hA fun us s2 ⟨vs, H2, I2, r2, q2⟩ => hm pins s2 σ H2 x vs v us Q I2 r1 r2 q2
/- xs.append(e), list.index on a module's tuple .. are MtR facts of 06m -/
end
end L2
namespace L2
open PySem PySem.Spec PyProof.Rows
def MtM (X : Cx) (id : String) (r : V → List V → Hp → VK → Prop) : Prop :=
  ∀ (pins : List (Addr × Obj)) (s : Shared) (σ : St) (H : Hp) (x : V) (xs : List V) (v : Value) (us : List Value) (Q : VK), Inv X pins σ H s → RelV x v → Vals xs us → r x xs H Q →
    wpAny (model X.prog X.w) X.A (call (.builtin id) (v :: us)) (EP X pins σ Q) X.xe s
/-! ### lists of values -/
theorem Vals.one : ∀ {x : V} {us : List Value}, Vals [x] us → ∃ u, us = [u] ∧ RelV x u
  | _, _, .cons r .nil => ⟨_, rfl, r⟩
section
variable {X : Cx} {pins : List (Addr × Obj)} {σ : St} {H : Hp} {s : Shared} {l b : Addr} {xs ys zs : List V}
/-! ### the two steps: a tracked list is rewritten, a new list is laid -/
theorem Inv.lset {its its' : List Value} {n : Nat} {f : Array Value → Array Value} {t' : Nat} (I : Inv X pins σ H s) (hH : H l = some (.lst xs))
    (e : s.heap.get? l = some { cls := .type "list", data := .seq its.toArray n }) (hf : f its.toArray = its'.toArray) (hv : Vals ys its') (hz : ys.length ≤ sizeLine) :
    Inv X pins σ (upd H l (.lst ys)) { s with heap := s.heap.update l (Obj.mapSeq f), toks := t' } := by
  have q := PySem.IsL.update e f
  rw [hf] at q
  refine I.write (x := l) (e := l) (by rw [hH]; exact trivial) (.inl rfl) (fun b' u hb hu => (Heap.get?_update_other s.heap (Obj.mapSeq f) (Ne.symm hb)).trans hu) ⟨_, q⟩ ?_
  exact ⟨hz, its', _, hv, q⟩
theorem Inv.lnew {its : List Value} {t' : Nat} (I : Inv X pins σ H s) (hv : Vals ys its) (hz : ys.length ≤ sizeLine) :
    Inv X pins σ (upd H s.heap.objs.size (.lst ys)) { s with heap := s.heap.push { cls := .type "list", data := .seq its.toArray }, toks := t' } :=
  I.laid (fun _ _ q => Heap.get?_push_of_some _ q) (Nat.le_refl _) ⟨hz, its, 0, hv, Heap.get?_push_size _ rfl⟩
theorem Inv.fresh (I : Inv X pins σ H s) : H s.heap.objs.size = none := I.hok.fresh (Nat.le_refl _)
theorem Inv.lstM (I : Inv X pins σ H s) (hH : H l = some (.lst xs)) : xs.length ≤ sizeLine ∧ ∃ (its : List Value) (n : Nat), Vals xs its ∧ xs.length = its.length ∧ s.heap.get? l = some { cls := .type "list", data := .seq its.toArray n } := by
  obtain ⟨z, its, n, r, e⟩ := I.hok l _ hH
  exact ⟨z, its, n, r, r.length, e⟩
theorem notLongL {n : Nat} (h : n ≤ sizeLine) : Builtin.List.listTooLong n = false := by
  unfold Builtin.List.listTooLong
  exact decide_eq_false (by omega)
end
section
variable {X : Cx}
/-! ### methods -/
def rAppend : V → List V → Hp → VK → Prop := fun x vs H Q => ∃ l xs y, x = .ref l ∧ vs = [y] ∧ H l = some (.lst xs) ∧ xs.length < sizeLine ∧ Q .non (upd H l (.lst (xs ++ [y])))
theorem mt_append : MtM X "list.append" rAppend := by
  intro pins s σ H x vs v us Q I rx rv h
  obtain ⟨l, xs, y, rfl, rfl, hH, hz, q⟩ := h
  cases rx
  obtain ⟨u, rfl, ru⟩ := rv.one
  obtain ⟨z, its, n, r, hl, e⟩ := I.lstM hH
  refine call_meets F.slot_list_append ⟨_, e, rfl⟩ F.entry_list_append (F.args_list_append_2 _ _) (PySem.list_append l its.toArray n u (by rw [List.size_toArray]; omega)) ⟨e, ?_⟩
  refine ⟨.non, _, I.lset (its' := its ++ [u]) hH e (by simp) (r.append (.cons ru .nil)) ?_, rfl, q⟩
  rw [List.length_append, List.length_singleton]
  omega
def rExtend : V → List V → Hp → VK → Prop := fun x vs H Q => ∃ l b xs zs, x = .ref l ∧ vs = [.ref b] ∧ H l = some (.lst xs) ∧ H b = some (.lst zs) ∧ xs.length + zs.length ≤ sizeLine ∧ Q .non (upd H l (.lst (xs ++ zs)))
def rPop : V → List V → Hp → VK → Prop := fun x vs H Q => ∃ l xs y, x = .ref l ∧ vs = [] ∧ H l = some (.lst xs) ∧ xs[xs.length - 1]? = some y ∧ Q y (upd H l (.lst xs.dropLast))
def rPopAt : V → List V → Hp → VK → Prop := fun x vs H Q => ∃ l xs i k y, x = .ref l ∧ vs = [.int i] ∧ H l = some (.lst xs) ∧ -(2 ^ 63) ≤ i ∧ i < 2 ^ 63 ∧ seqIndex? i xs.length = some k ∧ xs[k]? = some y ∧ Q y (upd H l (.lst (xs.eraseIdx k)))
def rReverse : V → List V → Hp → VK → Prop := fun x vs H Q => ∃ l xs, x = .ref l ∧ vs = [] ∧ H l = some (.lst xs) ∧ Q .non (upd H l (.lst xs.reverse))
def rClear : V → List V → Hp → VK → Prop := fun x vs H Q => ∃ l xs, x = .ref l ∧ vs = [] ∧ H l = some (.lst xs) ∧ Q .non (upd H l (.lst []))
/-! ### list + list, list += list, list * int -/
def rCat : R2 := fun x y H Q => ∃ l b xs zs, x = .ref l ∧ y = .ref b ∧ H l = some (.lst xs) ∧ H b = some (.lst zs) ∧ xs.length + zs.length ≤ sizeLine ∧ ∀ p, H p = none → Q (.ref p) (upd H p (.lst (xs ++ zs)))
def rRep : R2 := fun x y H Q => ∃ l k xs, x = .ref l ∧ y = .int k ∧ H l = some (.lst xs) ∧ -(2 ^ 63) ≤ k ∧ k < 2 ^ 63 ∧ xs.length * k.toNat ≤ sizeLine ∧
  ∀ p, H p = none → Q (.ref p) (upd H p (.lst (List.replicate k.toNat xs).flatten))
/-! ### del xs[i] -/
end
/-! ### xs[a:b] = ys -/
section
variable {prog : Program} {w : World} {A : Around} {E : Value → Shared → Prop} {s : Shared}
end
section
variable {X : Cx}
end
end L2
namespace L2
open PySem PySem.Spec PyProof.Rows
/-! ### the library's walks over a list of ints, kept objects alone -/
section
variable {prog : Program} {w : World} {A : Around} {E : Value → Shared → Prop} {s : Shared} {l : Addr} {its : List Value} {ns : List Int} {Q : Value → Shared → Prop}
end
/-! ### the calls, by values (CallR of 03t; MtR of 06l) -/
section
variable {X : Cx}
def rSum (K : PySem.W.Frag) : List V → Hp → VK → Prop := fun vs H Q => ∃ (a : Addr) (ns : List Int), vs = [V.ref a] ∧ SqL K H a (ns.map V.int) ∧ Q (.int ns.sum) H
def rMax (K : PySem.W.Frag) : List V → Hp → VK → Prop := fun vs H Q => ∃ (a : Addr) (ns : List Int), vs = [V.ref a] ∧ SqL K H a (ns.map V.int) ∧ 0 < ns.length ∧ ∀ m, m ∈ ns → (∀ y, y ∈ ns → y ≤ m) → Q (.int m) H
def rMin (K : PySem.W.Frag) : List V → Hp → VK → Prop := fun vs H Q => ∃ (a : Addr) (ns : List Int), vs = [V.ref a] ∧ SqL K H a (ns.map V.int) ∧ 0 < ns.length ∧ ∀ m, m ∈ ns → (∀ y, y ∈ ns → m ≤ y) → Q (.int m) H
/-! sorted, sort (fewer than 64 items: the library's own bound) -/
def rSorted (K : PySem.W.Frag) : List V → Hp → VK → Prop := fun vs H Q => ∃ (a : Addr) (ns : List Int), vs = [V.ref a] ∧ SqL K H a (ns.map V.int) ∧ ns.length < 64 ∧
  ∀ (ns' : List Int) (p : Addr), ns'.Perm ns → ns'.Pairwise (· ≤ ·) → H p = none → Q (.ref p) (upd H p (.lst (ns'.map V.int)))
def rSortedS (K : PySem.W.Frag) : List V → Hp → VK → Prop := fun vs H Q => ∃ (a : Addr) (xs : List Str), vs = [V.ref a] ∧ SqL K H a (xs.map V.str) ∧ xs.length < 64 ∧
  ∀ (ys : List Str) (p : Addr), ys.Perm xs → sortedS ys = true → H p = none → Q (.ref p) (upd H p (.lst (ys.map V.str)))
def rSort : V → List V → Hp → VK → Prop := fun x xs H Q => ∃ (a : Addr) (ns : List Int), x = V.ref a ∧ xs = [] ∧ H a = some (.lst (ns.map V.int)) ∧ ns.length < 64 ∧
  ∀ ns' : List Int, ns'.Perm ns → ns'.Pairwise (· ≤ ·) → Q .non (upd H a (.lst (ns'.map V.int)))
end
/-! ### list.index, flat items -/
section
variable {X : Cx}
def rIndex (K : PySem.W.Frag) : V → List V → Hp → VK → Prop := fun x xs H Q => ∃ (a : Addr) (ys : List V) (y : V) (j : Nat) (z : V), x = V.ref a ∧ xs = [y] ∧ SqL K H a ys ∧ flatV y = true ∧ ys.all flatV = true ∧ ys[j]? = some z ∧ eqV z y = true ∧
  (∀ (m : Nat) (z' : V), m < j → ys[m]? = some z' → eqV z' y = false) ∧ Q (.int (j : Nat)) H
end
/-! ### type(x) of an own instance; is, is not of a module's class -/
section
variable {X : Cx}
end
/-! ### any(xs), all(xs) of a list of bools -/
section
variable {X : Cx}
def rAny (K : PySem.W.Frag) : List V → Hp → VK → Prop := fun vs H Q => ∃ (a : Addr) (bs : List Bool), vs = [V.ref a] ∧ SqL K H a (bs.map V.bl) ∧ Q (.bl (bs.any id)) H
def rAll (K : PySem.W.Frag) : List V → Hp → VK → Prop := fun vs H Q => ∃ (a : Addr) (bs : List Bool), vs = [V.ref a] ∧ SqL K H a (bs.map V.bl) ∧ Q (.bl (bs.all id)) H
end
/-! ### == and != of data at any depth: none, bools, ints, texts, lists, tuples -/
mutual
inductive Dp (K : PySem.W.Frag) (H : Hp) : V → PyData → Prop
  | non : Dp K H .non .none
  | bl (b : Bool) : Dp K H (.bl b) (.bool b)
  | int (i : Int) : Dp K H (.int i) (.int i)
  | str (x : Str) : Dp K H (.str x) (.str x)
  | lst {a : Addr} {xs : List V} {ds : List PyData} : SqL K H a xs → DpAll K H xs ds → Dp K H (.ref a) (.list ds)
  | tup {a : Addr} {xs : List V} {ds : List PyData} : SqT K H a xs → DpAll K H xs ds → Dp K H (.ref a) (.tuple ds)
inductive DpAll (K : PySem.W.Frag) (H : Hp) : List V → List PyData → Prop
  | nil : DpAll K H [] []
  | cons {v : V} {vs : List V} {d : PyData} {ds : List PyData} : Dp K H v d → DpAll K H vs ds → DpAll K H (v :: vs) (d :: ds)
end
section
variable {X : Cx} {pins : List (Addr × Obj)} {σ : St} {H : Hp} {s : Shared}
mutual
theorem Dp.reads (I : Inv X pins σ H s) : ∀ (d : PyData) (v : V) (u : Value), Dp X.K H v d → RelV v u → ∃ as, Reads s.heap u d as
  | .none, _, _, h, r => by
    cases h
    cases r
    exact ⟨_, Reads.none⟩
  | .bool b, _, _, h, r => by
    cases h
    cases r
    exact ⟨_, Reads.bool b⟩
  | .int i, _, _, h, r => by
    cases h
    obtain ⟨t, rfl⟩ := r
    exact ⟨_, Reads.int i t⟩
  | .str x, _, _, h, r => by
    cases h
    obtain ⟨t, rfl⟩ := r
    exact ⟨_, Reads.str x t⟩
  | .list ds, _, _, h, r => by
    cases h with
    | lst hs ha =>
      cases r
      obtain ⟨its, rv, ⟨o, n, ho, hc, _, hd⟩, _⟩ := I.list hs
      obtain ⟨as, hr⟩ := Dp.readsAll I ds _ its ha rv
      exact ⟨_, Reads.list ho hc hd hr⟩
  | .tuple ds, _, _, h, r => by
    cases h with
    | tup hs ha =>
      cases r
      obtain ⟨its, rv, ⟨o, ho, hc, n, hd⟩, _⟩ := I.tuple hs
      obtain ⟨as, hr⟩ := Dp.readsAll I ds _ its ha rv
      exact ⟨_, Reads.tuple ho hc hd hr⟩
  | .dict _, _, _, h, _ => by cases h
theorem Dp.readsAll (I : Inv X pins σ H s) : ∀ (ds : List PyData) (vs : List V) (us : List Value), DpAll X.K H vs ds → Vals vs us → ∃ as, ReadsAll s.heap us ds as
  | [], _, _, h, r => by
    cases h
    cases r
    exact ⟨_, ReadsAll.nil⟩
  | d :: ds, _, _, h, r => by
    cases h with
    | cons h1 h2 =>
      cases r with
      | cons r1 r2 =>
        obtain ⟨as, q1⟩ := Dp.reads I d _ _ h1 r1
        obtain ⟨bs, q2⟩ := Dp.readsAll I ds _ _ h2 r2
        exact ⟨_, ReadsAll.cons q1 q2⟩
end
end
section
variable {X : Cx}
def rEqD (K : PySem.W.Frag) : R2 := fun x y H Q => ∃ d e, Dp K H x d ∧ Dp K H y e ∧ SeqAt.shaped d = true ∧ SeqAt.shaped e = true ∧ Q (.bl (PyData.eqv d e)) H
def rNeD (K : PySem.W.Frag) : R2 := fun x y H Q => ∃ d e, Dp K H x d ∧ Dp K H y e ∧ SeqAt.shaped d = true ∧ SeqAt.shaped e = true ∧ Q (.bl (!PyData.eqv d e)) H
end
end L2
namespace L2
open PySem PySem.Spec PyProof.Rows
abbrev CellAt (h : Heap) (c : Addr) (v : Option Value) : Prop := h.IsCell c v
def relS (scope sc : Scope) : Scope :=
  { scope with names := scope.names.map fun (n, k) => if (k == .free && sc.kind == .function && sc.names.lookup n == some .cell) then (n, .cell) else (n, k) }
def cloFrom (cells : List (Str × Addr)) : List (Str × NameKind) → List (Str × Addr) → List (Str × Addr)
  | [], acc => acc
  | (n, k) :: r, acc => if k == .free then cloFrom cells r ((n, (cells.lookup n).getD 0) :: acc) else cloFrom cells r acc
theorem closure_loop (env : Env) (f : Str × NameKind → List (Str × Addr) → Sem (ForInStep (List (Str × Addr))))
    (hf : ∀ n k c, f (n, k) c = if k == .free then (do let a ← cellOf env n; pure (.yield ((n, a) :: c))) else pure (.yield c)) :
    ∀ (names : List (Str × NameKind)) (acc : List (Str × Addr)), (∀ y ∈ names, y.2 = .free → ∃ c, env.cells.lookup y.1 = some c) → forIn names acc f = pure (cloFrom env.cells names acc)
  | [], acc, _ => by rw [List.forIn_nil]; rfl
  | (n, k) :: r, acc, h => by
    rw [List.forIn_cons, hf]
    have ih := fun acc => closure_loop env f hf r acc fun y hy => h y (List.mem_cons_of_mem _ hy)
    unfold cloFrom
    by_cases hk : (k == NameKind.free) = true
    · rw [if_pos hk, if_pos hk]
      obtain ⟨c, hc⟩ := h (n, k) List.mem_cons_self (by simpa using hk)
      have e : cellOf env n = pure c := by unfold cellOf; rw [hc]
      rw [e]
      have e2 : (env.cells.lookup n).getD 0 = c := by rw [hc]; rfl
      rw [e2]
      exact ih _
    · rw [if_neg hk, if_neg hk]
      exact ih _
theorem closure_ok {scope : Scope} {env : Env} (h : ∀ y ∈ scope.names, y.2 = .free → ∃ c, env.cells.lookup y.1 = some c) : closureFor scope env = pure (cloFrom env.cells scope.names []) := by
  simp only [closureFor]
  rw [closure_loop env _ (fun n k c => rfl) scope.names [] h]
  rfl
theorem mem_lookup {α : Type} : ∀ {l : List (Str × α)} {n : Str} {c : α}, (n, c) ∈ l → ∃ c', l.lookup n = some c'
  | (k, v) :: r, n, c, h => by
    rw [List.lookup_cons]
    cases hb : n == k with
    | true => exact ⟨_, rfl⟩
    | false =>
      rcases List.mem_cons.mp h with e | h
      · cases e; simp at hb
      · exact mem_lookup h
theorem cloFrom_mem {cells : List (Str × Addr)} : ∀ {names : List (Str × NameKind)} {acc : List (Str × Addr)} {n : Str} {c : Addr}, (n, c) ∈ cloFrom cells names acc → (n, c) ∈ acc ∨ ((n, .free) ∈ names ∧ c = (cells.lookup n).getD 0)
  | [], _, _, _, h => .inl h
  | (m, k) :: r, acc, n, c, h => by
    unfold cloFrom at h
    split at h
    · rename_i hk
      have hk : k = .free := by simpa using hk
      rcases cloFrom_mem h with h | ⟨h1, h2⟩
      · rcases List.mem_cons.mp h with e | h
        · cases e; exact .inr ⟨hk ▸ List.mem_cons_self, rfl⟩
        · exact .inl h
      · exact .inr ⟨List.mem_cons_of_mem _ h1, h2⟩
    · rcases cloFrom_mem h with h | ⟨h1, h2⟩
      · exact .inl h
      · exact .inr ⟨List.mem_cons_of_mem _ h1, h2⟩
theorem cloFrom_acc {cells : List (Str × Addr)} : ∀ {names : List (Str × NameKind)} {acc : List (Str × Addr)} {p : Str × Addr}, p ∈ acc → p ∈ cloFrom cells names acc
  | [], _, _, h => h
  | (m, k) :: r, acc, p, h => by
    unfold cloFrom
    split
    · exact cloFrom_acc (List.mem_cons_of_mem _ h)
    · exact cloFrom_acc h
theorem cloFrom_has {cells : List (Str × Addr)} : ∀ {names : List (Str × NameKind)} {acc : List (Str × Addr)} {n : Str}, (n, .free) ∈ names → (n, (cells.lookup n).getD 0) ∈ cloFrom cells names acc
  | (m, k) :: r, acc, n, h => by
    unfold cloFrom
    rcases List.mem_cons.mp h with e | h
    · cases e
      exact cloFrom_acc List.mem_cons_self
    · split
      · exact cloFrom_has h
      · exact cloFrom_has h
structure BlkOk (N : List Str) (sc scope : Scope) (own : List (Str × Nat)) : Prop where
  kind : scope.kind = .function
  uniq : ∀ y ∈ scope.names, scope.names.lookup y.1 = some y.2
  ix : ∀ p ∈ own, N[p.2]? = some p.1
  free : ∀ y ∈ scope.names, y.2 = .free → sc.names.lookup y.1 = some .cell ∨ sc.names.lookup y.1 = some .free
  own : ∀ y ∈ scope.names, y.2 = .local ∨ y.2 = .cell → y.1 ∈ own.map (·.1) ∨ y.1 ∉ N
def wipe (σ : St) : List Nat → St
  | [] => σ
  | v :: vs => (wipe σ vs).set v none
abbrev Cx.blk (X : Cx) (s : Shared) (H : Hp) (scope : Scope) (cenv : Env) (fp : List Addr) : Cx := { X with s_0 := s, H_0 := H, env := cenv, outer := X.stack, ex := fp, fn := fun x => scope.names.lookup x == some .cell, pn := [], xe := fun _ _ => False }
section
variable {X : Cx} {pins : List (Addr × Obj)} {σ : St} {H : Hp} {s : Shared}
def PTs (X : Cx) (ifs : List Expr) (t : TT) : Prop :=
  ∀ (pins : List (Addr × Obj)) (s : Shared) (σ : St) (H : Hp) (Q : Bool → Hp → Prop), Inv X pins σ H s → t σ H Q →
    wpAny (model X.prog X.w) X.A (forIn ifs true fun c r => if r = true then do let ok ← isTrue c X.env (eval c X.env); pure (ForInStep.yield ok) else pure (ForInStep.yield r)) (TP X pins σ Q) X.xe s
def tYes : TT := fun _ H Q => Q true H
end
section
variable {X : Cx}
def tLc (wi : TI) (g : TG) (tt : TT) (te : TE) (vs : List Nat) : TE := fun σ H Q => wi σ H fun J H1 => ∀ D, H1 D = none → ∃ W : Nat → Nat → Hp → Prop, (∃ m, W 0 m (upd H1 D (.lst []))) ∧ ∀ i m H, W i m H →
  (J.stop i H ∧ Q (.ref D) H) ∨ (J.go i H ∧ ∃ Nx : Hp → Prop, (∀ H', Nx H' → ∃ m', m' < m ∧ W (i + 1) m' H') ∧ ∀ x H', J.yld i H x H' → g x (wipe σ vs) H' fun σ2 H2 => wipe σ2 vs = wipe σ vs ∧ tt σ2 H2 fun b H3 =>
    if b = true then te σ2 H3 fun y H4 => ∃ acc, H4 D = some (.lst acc) ∧ acc.length < sizeLine ∧ Nx (upd H4 D (.lst (acc ++ [y]))) else Nx H3)
end
/-! ### the forms one uses -/
def blkC (N : List Str) (sc scope : Scope) (own : List (Str × Nat)) : Bool :=
  (match scope.kind with | .function => true | _ => false) && (scope.names.all fun y => decide (scope.names.lookup y.1 = some y.2)) && (own.all fun p => decide (N[p.2]? = some p.1)) &&
    (scope.names.all fun y => match y.2 with
      | .free => (match sc.names.lookup y.1 with | some .cell => true | some .free => true | _ => false)
      | .local => decide (y.1 ∈ own.map (·.1)) || decide (y.1 ∉ N)
      | .cell => decide (y.1 ∈ own.map (·.1)) || decide (y.1 ∉ N)
      | _ => true)
end L2
namespace L2
open PySem PySem.Spec PyProof.Rows
section
variable {X : Cx} {pins : List (Addr × Obj)} {σ : St} {H : Hp} {s : Shared} {h' : Heap}
theorem Inv.turnedL {t' : Nat} {ch : List Addr} (I : Inv X pins σ H s) (k : ∀ b o, b ∉ ch → s.heap.get? b = some o → h'.get? b = some o) (hf : ∀ b ∈ ch, FpOk X pins H b) : Inv X pins σ H { s with heap := h', toks := t' } := by
  have nit : ∀ b u, H b = some u → b ∉ ch := fun b u e z => by
    have q := (hf b z).1
    rw [q] at e; cases e
  refine I.step (g' := s.gens) (d' := s.drawn) (ch := ch) (fun b hb => ⟨(hf b hb).2.2.2.1, (hf b hb).2.1, (hf b hb).2.2.2.2.1, (hf b hb).2.2.2.2.2⟩) (fun b o _ _ hc e _ => k b o hc e) (fun b o _ _ hc e _ => ⟨o.slots, k b o hc e⟩)
    (fun _ _ _ _ n => n) (fun b o hc e => ⟨o, k b o hc e⟩) (fun _ _ e => e) (fun _ _ _ e => e) (fun b ps e => ⟨#[], by rw [e]; simp⟩) (fun m hm => ?_) (fun b u e => ?_) I.bare
  · obtain ⟨o, es, ep, ho, r⟩ := hm
    exact ⟨o, es, ep, k _ o (fun z => (hf _ z).2.1 rfl) ho, r⟩
  · refine (I.hok b u e).stay (fun c v hc q => k c v ?_ q) (fun _ q => q) fun _ _ q => q
    rcases hc with z | z
    · rw [z]; exact nit b u e
    · exact nit c _ z
theorem Inv.turnedNew {t' : Nat} {ch : List Addr} {T : Addr} {ob : HO} (I : Inv X pins σ H s) (k : ∀ b o, b ∉ ch → s.heap.get? b = some o → h'.get? b = some o) (hf : ∀ b ∈ ch, FpOk X pins H b) (hT : s.heap.objs.size ≤ T)
    (new : ObjOk X.prog X.w (upd H T ob) h' T ob) : Inv X pins σ (upd H T ob) { s with heap := h', toks := t' } := by
  have hn : H T = none := I.hok.fresh hT
  have nit : ∀ b u, H b = some u → b ∉ ch := fun b u e z => by
    have q := (hf b z).1
    rw [q] at e; cases e
  refine I.step (g' := s.gens) (d' := s.drawn) (ch := ch) (fun b hb => ⟨(hf b hb).2.2.2.1, (hf b hb).2.1, (hf b hb).2.2.2.2.1, (hf b hb).2.2.2.2.2⟩) (fun b o _ _ hc e _ => k b o hc e) (fun b o _ _ hc e _ => ⟨o.slots, k b o hc e⟩)
    (fun b o _ e n => ?_) (fun b o hc e => ⟨o, k b o hc e⟩) (fun b xs e => ?_) (fun b o u e => ?_) (fun b ps e => ⟨#[], ?_⟩) (fun m hm => ?_) (fun b u e => ?_) I.bare
  · rw [upd_ne (Nat.ne_of_lt (Nat.lt_of_lt_of_le (Heap.lt_size e) hT))]; exact n
  · rw [upd_ne (ne_of_none e hn)]; exact e
  · rw [upd_ne (ne_of_none e hn)]; exact e
  · rw [upd_ne (ne_of_none e hn), e]; simp
  · obtain ⟨o, es, ep, ho, r⟩ := hm
    exact ⟨o, es, ep, k _ o (fun z => (hf _ z).2.1 rfl) ho, r⟩
  · by_cases hb : b = T
    · subst hb
      rw [upd_same] at e
      cases e
      exact new
    · rw [upd_ne hb] at e
      refine (I.hok b u e).stay (fun c v hc q => k c v ?_ q) (fun c q => by rw [upd_ne (ne_of_none q hn)]; exact q) fun c xs q => by rw [upd_ne (ne_of_none q hn)]; exact q
      rcases hc with z | z
      · rw [z]; exact nit b u e
      · exact nit c _ z
end
/-! ### zip(list, list) -/
theorem boot_zip5 : bootBuiltins "zip" = some (.type "zip") := by decide +kernel
def Itz (K : PySem.W.Frag) (a b : Addr) : It :=
  ⟨fun i H => ∃ (xs ys : List V) (x y : V), SqL K H a xs ∧ SqL K H b ys ∧ xs[i]? = some x ∧ ys[i]? = some y,
    fun i H v H' => ∃ T x y, v = .ref T ∧ H T = none ∧ H' = upd H T (.tup [x, y]) ∧ (∀ xs, SqL K H a xs → xs[i]? = some x) ∧ ∀ ys, SqL K H b ys → ys[i]? = some y,
    fun i H => ∃ xs ys : List V, SqL K H a xs ∧ SqL K H b ys ∧ (xs.length ≤ i ∨ ys.length ≤ i)⟩
theorem turn_zip {P : Program} {w : World} {K : PySem.W.Frag} {elts : List Expr} {kk : Nat} {tpos : Pos} {a b z TI TO i1 i2 : Addr} (D : ZipApart z TI TO i1 i2 a b) :
    Turn P w K (.Tuple elts kk tpos) (Itz K a b) [z, TI, TO, i1, i2] z (fun i h => IsZip h z TI TO .none ∧ IsPair h TI (.ref i1) (.ref i2) ∧ (∃ x y, IsPair h TO x y) ∧ h.IsListIter i1 a i ∧ h.IsListIter i2 b i) where
  mem := by simp
  obj := fun i h st c hc => by
    obtain ⟨hz, hTI, ⟨x, y, hTO⟩, ⟨o1, e1, _, d1⟩, ⟨o2, e2, _, d2⟩⟩ := st
    have e' : c = z ∨ c = TI ∨ c = TO ∨ c = i1 ∨ c = i2 := by simpa using hc
    rcases e' with q | q | q | q | q
    · rw [q]; exact ⟨_, hz, fun v q => nomatch q⟩
    · rw [q]; exact ⟨_, hTI, fun v q => nomatch q⟩
    · rw [q]; exact ⟨_, hTO, fun v q => nomatch q⟩
    · rw [q]; exact ⟨o1, e1, fun v q => by rw [d1] at q; cases q⟩
    · rw [q]; exact ⟨o2, e2, fun v q => by rw [d2] at q; cases q⟩
  keep := fun i h h' st k => by
    obtain ⟨hz, hTI, ⟨x, y, hTO⟩, h1, h2⟩ := st
    exact ⟨k z (by simp) _ hz, k TI (by simp) _ hTI, ⟨x, y, k TO (by simp) _ hTO⟩, h1.at fun o q => k i1 (by simp) o q, h2.at fun o q => k i2 (by simp) o q⟩
  item := by
    intro X hP hw hK hc i pins s σ H E I hf st hg
    subst hP hw hK
    obtain ⟨hz, hTI, ⟨x0, y0, hTO⟩, h1, h2⟩ := st
    obtain ⟨xs, ys, x, y, hqx, hqy, hx, hy⟩ := hg
    obtain ⟨its, rv, p, _⟩ := I.list hqx
    obtain ⟨its2, rv2, p2, _⟩ := I.list hqy
    obtain ⟨u, hu, ru⟩ := rv.get hx
    obtain ⟨u2, hu2, ru2⟩ := rv2.get hy
    have hzl : z < s.heap.objs.size := Heap.lt_size hz
    refine wpAny_pyNext_zip_item D hz hTI hTO h1 h2 p.isList p2.isList (x := u) (y := u2) (by simpa using hu) (by simpa using hu2) fun h' z' TO' h1' h2' hT hsz hk => ?_
    refine ⟨_, rfl, wpAny_letOwnedTupleGo_zip (s := { s with heap := h' }) z' fun h'' z'' sb => ?_⟩
    have hT2 : h''.get? s.heap.objs.size = some { cls := .type "tuple", data := .seq #[u, u2] } := (sb.2 _ (Nat.ne_of_gt hzl)).trans hT
    have new : ObjOk X.prog X.w (upd H s.heap.objs.size (.tup [x, y])) h'' s.heap.objs.size (.tup [x, y]) :=
      ⟨by show 2 ≤ sizeLine; decide, [u, u2], .cons ru (.cons ru2 .nil), ⟨_, hT2, rfl, _, rfl⟩⟩
    have I1 : Inv X pins σ (upd H s.heap.objs.size (.tup [x, y])) { s with heap := h'' } :=
      I.turnedNew (t' := s.toks) (ch := [z, TI, TO, i1, i2]) (fun c o hb q => (sb.2 c (fun q' => hb (by simp [q']))).trans (hk c o (fun q' => hb (by simp [q'])) (fun q' => hb (by simp [q'])) (fun q' => hb (by simp [q'])) (fun q' => hb (by simp [q'])) q)) hf (Nat.le_refl _) new
    refine ⟨.ref s.heap.objs.size, _, I1, rfl, ⟨_, x, y, rfl, I.hok.fresh (Nat.le_refl _), rfl, fun l hl => by rw [I.list_inj hl hqx]; exact hx, fun l hl => by rw [I.list_inj hl hqy]; exact hy⟩, ⟨z'', ?_, ⟨u, u2, ?_⟩, ?_, ?_⟩, fun c hcm => ?_⟩
    · exact (sb.2 _ D.TIz).trans (hk _ _ D.TIz D.TITO D.TIi1 D.TIi2 hTI)
    · exact (sb.2 _ D.TOz).trans TO'
    · exact h1'.at fun o q => (sb.2 _ D.i1z).trans q
    · exact h2'.at fun o q => (sb.2 _ D.i2z).trans q
    · have hlt : c < s.heap.objs.size := by
        have e' : c = z ∨ c = TI ∨ c = TO ∨ c = i1 ∨ c = i2 := by simpa using hcm
        rcases e' with q | q | q | q | q
        · rw [q]; exact hzl
        · rw [q]; exact Heap.lt_size hTI
        · rw [q]; exact Heap.lt_size hTO
        · rw [q]; obtain ⟨_, e1, _⟩ := h1; exact Heap.lt_size e1
        · rw [q]; obtain ⟨_, e2, _⟩ := h2; exact Heap.lt_size e2
      rw [upd_ne (Nat.ne_of_lt hlt)]
      exact (hf c hcm).1
  done := by
    intro X hP hw hK hc i pins s σ H E I hf st hg
    subst hP hw hK
    obtain ⟨hz, hTI, ⟨x0, y0, hTO⟩, h1, h2⟩ := st
    obtain ⟨xs, ys, hqx, hqy, hend⟩ := hg
    obtain ⟨its, rv, p, _⟩ := I.list hqx
    obtain ⟨its2, rv2, p2, _⟩ := I.list hqy
    have l1 := rv.length
    have l2 := rv2.length
    have he : its.toArray[i]? = none ∨ its2.toArray[i]? = none := by
      rcases hend with q | q
      · exact .inl (by simp; omega)
      · exact .inr (by simp; omega)
    exact wpAny_pyNext_zip_end (I.ok.hd hc) D hz hTI hTO h1 h2 p.isList p2.isList he fun h' hk => ⟨rfl, I.turnedL (t' := s.toks) (ch := [z, TI, TO, i1, i2]) (fun c o hb q =>
      hk c o (fun q' => hb (by simp [q'])) (fun q' => hb (by simp [q'])) (fun q' => hb (by simp [q'])) (fun q' => hb (by simp [q'])) q) hf⟩
  self := fun A i s Q E st h => wpAny_pyIter_zip st.1 h
def iZip (K : PySem.W.Frag) (ta : TA) : TI := fun σ H R => ta σ H fun vs H1 => ∃ a b xs ys, vs = [.ref a, .ref b] ∧ SqL K H1 a xs ∧ SqL K H1 b ys ∧ R (Itz K a b) H1
theorem pi_zip {X : Cx} {e e2 : Expr} {ta : TA} {p pos tpos : Pos} {elts : List Expr} {kk : Nat} (hg : Gl X "zip") (hm : X.mg "zip" = none) (ha : PA X [e, e2] ta)
    (hs : starEach [e, e2] X.env = (false, eval e X.env) :: starEach [e2] X.env := by rfl) (hpl : (backTo pos (starEach [e2] X.env)).any (·.1) = false := by rfl) :
    PI X (.Tuple elts kk tpos) (.Call (.Name "zip" p) [e, e2] [] pos) (iZip X.K ta) := by
  intro pins s σ H R I h
  refine Call_ (ld_blt I hg hm boot_zip5 (PyProof.Rows.callWith_type1 (thn (ha pos pins s σ H _ I h) fun us s1 ⟨vs, H1, I1, r1, q1⟩ => ?_) hs hpl))
  obtain ⟨a, b, xs, ys, ex, hqx, hqy, q⟩ := q1
  subst ex
  cases r1 with
  | cons r rr =>
    cases rr with
    | cons r' rr =>
      cases rr
      cases r
      cases r'
      obtain ⟨its, rv, p1, _⟩ := I1.list hqx
      obtain ⟨its2, rv2, p2, _⟩ := I1.list hqy
      have la : a < s1.heap.objs.size := p1.lt
      have lb : b < s1.heap.objs.size := p2.lt
      refine call_zip_2 p1.isList p2.isList fun h' hz hTI hTO h1 h2 hsz hk => wpAny_pyIter_zip hz ?_
      have I2 : Inv X pins σ H1 { s1 with heap := h' } := I1.kept (t' := s1.toks) hk
      refine ⟨s1.heap.objs.size + 4, [s1.heap.objs.size + 4, s1.heap.objs.size + 2, s1.heap.objs.size + 3, s1.heap.objs.size, s1.heap.objs.size + 1], _, _, H1, rfl, I2, turn_zip (PySem.W.ktu_apart s1.heap.objs.size a b la lb), ⟨hz, hTI, ⟨_, _, hTO⟩, h1, h2⟩, fun c hcm => ?_, q⟩
      have e' : c = s1.heap.objs.size + 4 ∨ c = s1.heap.objs.size + 2 ∨ c = s1.heap.objs.size + 3 ∨ c = s1.heap.objs.size ∨ c = s1.heap.objs.size + 1 := by simpa using hcm
      have hle : s1.heap.objs.size ≤ c := by
        rcases e' with z | z | z | z | z
        · rw [z]; exact Nat.le_add_right _ _
        · rw [z]; exact Nat.le_add_right _ _
        · rw [z]; exact Nat.le_add_right _ _
        · rw [z]; exact Nat.le_refl _
        · rw [z]; exact Nat.le_add_right _ _
      exact I1.fpOk hle (I1.hok.fresh hle)
end L2
section 
namespace Bits
open PySem PyProof.Rows
theorem nat_xor_add_and (m : Nat) : ∀ n : Nat, (m ^^^ n) + 2 * (m &&& n) = m + n := by
  induction m using Nat.strongRecOn with
  | _ m ih =>
    intro n
    by_cases h0 : m = 0
    · subst h0
      simp
    · have ih' := ih (m / 2) (by omega) (n / 2)
      rw [← Nat.xor_div_two, ← Nat.and_div_two] at ih'
      have o1 := @Nat.xor_mod_two_eq_one m n
      have a1 := @Nat.and_mod_two_eq_one m n
      omega
theorem bitXor_pp {x y : Int} (hx : 0 ≤ x) (hy : 0 ≤ y) : Builtin.bitXor x y = ((x.toNat ^^^ y.toNat : Nat) : Int) := by
  have e := nat_xor_add_and x.toNat y.toNat
  rw [bitXor_and, bitAnd_pp hx hy]
  omega
theorem bitOr_pp {x y : Int} (hx : 0 ≤ x) (hy : 0 ≤ y) : Builtin.bitOr x y = ((x.toNat ||| y.toNat : Nat) : Int) := by
  have e := nat_or_add_and x.toNat y.toNat
  rw [bitOr_and, bitAnd_pp hx hy]
  omega
end Bits
end 
/-! SHORT WORDS over the layer: a def of the text, its body, what a loop and a test want. -/
namespace L2
open PySem PySem.Spec PyProof.Rows
/-! ### the text by places -/
def inClass (s : Stmt) (j : Nat) : Stmt := match s with
  | .ClassDef _ _ _ body _ _ _ _ _ _ _ => body.getD j (.Pass ⟨0, 0, 0, 0⟩)
  | _ => .Pass ⟨0, 0, 0, 0⟩
def defArgs (s : Stmt) : Arguments := match s with
  | .FunctionDef _ a _ _ _ _ _ _ _ _ => a
  | _ => { posonlyargs := [], args := [], vararg := none, kwonlyargs := [], kw_defaults := [], kwarg := none, defaults := [] }
def defBody (s : Stmt) : List Stmt := match s with
  | .FunctionDef _ _ b _ _ _ _ _ _ _ => b
  | _ => []
def defScope (s : Stmt) : Scope := match s with
  | .FunctionDef _ _ _ _ _ _ sc _ _ _ => sc
  | _ => { kind := .function, names := [], isGenerator := false, isCoroutine := false }
/-! ### no exception leaves a def -/
abbrev CX0 : CXT := fun _ _ _ _ _ _ => False
abbrev E0 : XK := fun _ _ _ => False
/-! ### a def (or method) of the text as it stands behind the top -/
structure Fun (K : PySem.W.Frag) (x qual : Str) (st : Stmt) (f : Addr) (fd : FuncData) : Prop where
  ex : ∃ (oc : Value) (od : Option Addr) (kV doc pm : Value) (an : Option Addr) (cdv ct : Value) (osl : Array (Option Value)),
    fd = PySem.W.fnOf x qual (defArgs st) (defBody st) (defScope st) .none kV doc pm an cdv ct ∧ K.lookup f = some ⟨oc, od, .func fd, osl⟩ ∧ PySem.W.codeIn K cdv qual = true
  kp : PySem.W.keepIn K (.ref f) = true
section
variable {P : Program} {w : World} {K : PySem.W.Frag} {mg : Str → Option Value} {base : Heap}
theorem Fun.binds {x qual : Str} {st : Stmt} {f : Addr} {fd : FuncData} {ps : List Str} (F : Fun K x qual st f fd)
    (h : ∀ (kV doc pm : Value) (an : Option Addr) (cdv ct : Value) (us : List Value), us.length = ps.length → bindArgs (PySem.W.fnOf x qual (defArgs st) (defBody st) (defScope st) .none kV doc pm an cdv ct) ⟨us, []⟩ = pure (ps.zip us)) : Binds K fd ps [] := by
  obtain ⟨oc, od, kV, doc, pm, an, cdv, ct, osl, rfl, lk, hcd⟩ := F.ex
  exact .all (h kV doc pm an cdv ct)
theorem fun_mk {x qual : Str} {st : Stmt} {f : Addr} {oc : Value} {od an : Option Addr} {osl : Array (Option Value)} {kV doc pm cdv ct : Value} (l : K.lookup f = some ⟨oc, od, .func (PySem.W.fnOf x qual (defArgs st) (defBody st) (defScope st) .none kV doc pm an cdv ct), osl⟩)
    (c : PySem.W.codeIn K cdv qual = true) (k : PySem.W.keepIn K (.ref f) = true) : Fun K x qual st f (PySem.W.fnOf x qual (defArgs st) (defBody st) (defScope st) .none kV doc pm an cdv ct) := ⟨⟨oc, od, kV, doc, pm, an, cdv, ct, osl, rfl, l, c⟩, k⟩
end
/-! ### expressions in short: the name that stands in the i-th slot -/
section
variable {X : Cx}
theorem pv (i : Nat) {x : Str} {pos : Pos} (hN : X.N[i]? = some x := by rfl) (hv : Vis X.env.scope x := by first | exact Or.inl rfl | exact Or.inr (Or.inl rfl) | exact Or.inr (Or.inr rfl)) (hd : (x == ("__debug__" : Str)) = false := by decide)
    (hcd : (x == ("__classdict__" : Str)) = false := by decide) : PE X (.Name x pos) (tVar i) := pe_var hN hv hd hcd
end
/-! ### tests -/
theorem iteF {A B : Prop} (h : B) : if false = true then A else B := by
  rw [if_neg Bool.false_ne_true]
  exact h
theorem iteT {A B : Prop} (h : A) : if true = true then A else B := by
  rw [if_pos rfl]
  exact h
/-! ### heaps -/
def Same (H H' : Hp) : Prop := ∀ b o, H b = some o → H' b = some o
theorem Same.refl (H : Hp) : Same H H := fun _ _ h => h
theorem Same.trans {H H1 H2 : Hp} (a : Same H H1) (b : Same H1 H2) : Same H H2 := fun c o h => b c o (a c o h)
theorem Same.free {H H' : Hp} (e : Same H H') {l : Addr} (h : H' l = Option.none) : H l = Option.none := by
  cases q : H l with
  | none => rfl
  | some o =>
    rw [e l o q] at h
    cases h
theorem Same.seq {K : PySem.W.Frag} {H H' : Hp} {a : Addr} {xs : List V} (e : Same H H') (h : SqL K H a xs) : SqL K H' a xs := by
  rcases h with (h | ⟨o, h⟩) | h
  · exact .inl (.inl (e _ _ h))
  · exact .inl (.inr ⟨o, e _ _ h⟩)
  · exact .inr h
/-! ### lists -/
theorem at_of {xs : List V} {z : Int} {j : Nat} {v : V} (e : z = (j : Int)) (h : xs[j]? = some v) : atI xs z = some v := by
  rw [e]
  exact atI_nat h
end L2
section
set_option Elab.async false
set_option linter.all false
set_option maxRecDepth 100000
set_option maxHeartbeats 2000000
namespace L2
open PySem PySem.Spec PyProof.Rows
open PySem.W (WData Codec OpenSpec Well WellAll ReadsW ReadsAllW)
/-! ### an answer as data -/
mutual
inductive Dw (K : PySem.W.Frag) (H : Hp) : V → WData → Prop
  | non : Dw K H .non .none
  | bl (b : Bool) : Dw K H (.bl b) (.bool b)
  | int (i : Int) : Dw K H (.int i) (.int i)
  | str (x : Str) : Dw K H (.str x) (.str x)
  | byt (b : Array UInt8) : Dw K H (.byt b) (.bytes b.toList)
  | lst {a : Addr} {xs : List V} {ds : List WData} : SqL K H a xs → DwAll K H xs ds → Dw K H (.ref a) (.list ds)
  | tup {a : Addr} {xs : List V} {ds : List WData} : SqT K H a xs → DwAll K H xs ds → Dw K H (.ref a) (.tuple ds)
inductive DwAll (K : PySem.W.Frag) (H : Hp) : List V → List WData → Prop
  | nil : DwAll K H [] []
  | cons {v : V} {vs : List V} {d : WData} {ds : List WData} : Dw K H v d → DwAll K H vs ds → DwAll K H (v :: vs) (d :: ds)
end
theorem dw_ints {K : PySem.W.Frag} {H : Hp} : ∀ ns : List Int, DwAll K H (ns.map V.int) (ns.map WData.int)
  | [] => .nil
  | n :: r => .cons (.int n) (dw_ints r)
theorem ints_dw {K : PySem.W.Frag} {H : Hp} : ∀ (ns : List Int) (xs : List V), DwAll K H xs (ns.map WData.int) → xs = ns.map V.int
  | [], xs, h => by
    cases h
    rfl
  | n :: r, xs, h => by
    cases h with
    | cons h1 h2 =>
      cases h1
      rw [ints_dw r _ h2] <;> rfl
section
variable {P : Program} {w : World} {K : PySem.W.Frag} {H : Hp} {h : Heap} {R : PySem.W.WRecords} {cl : Str → Option Addr}
theorem sqL_at {a : Addr} {xs : List V} (hok : HOk P w H h) (KX : K.In h) (q : SqL K H a xs) : ∃ (its : List Value) (o : Obj) (n : Nat), Vals xs its ∧ h.get? a = some o ∧ o.cls = .type "list" ∧ o.data = .seq its.toArray n := by
  rcases q with q | ⟨o, its, n, e, hc, _, hd, _, hv⟩
  · obtain ⟨_, its, n, hv, e⟩ := (show ObjOk P w H h a (.lst xs) from q.ok hok)
    exact ⟨its, _, n, hv, e, rfl, rfl⟩
  · exact ⟨its.toList, o, n, hv, KX _ _ e, hc, by simp [hd]⟩
theorem sqT_at {a : Addr} {xs : List V} (hok : HOk P w H h) (KX : K.In h) (q : SqT K H a xs) : ∃ (its : List Value) (o : Obj) (n : Nat), Vals xs its ∧ h.get? a = some o ∧ o.cls = .type "tuple" ∧ o.data = .seq its.toArray n := by
  rcases q with q | ⟨o, its, n, e, hc, hd, _, hv⟩
  · obtain ⟨_, its, hv, o, e, hc, n, hd⟩ := (show ObjOk P w H h a (.tup xs) from q.ok hok)
    exact ⟨its, o, n, hv, e, hc, hd⟩
  · exact ⟨its.toList, o, n, hv, KX _ _ e, hc, by simp [hd]⟩
mutual
theorem Dw.reads (hok : HOk P w H h) (KX : K.In h) : ∀ (d : WData) (v : V) (u : Value), Dw K H v d → RelV v u → ∃ as, ReadsW R cl h u d as
  | .none, _, _, x, r => by
    cases x
    cases r
    exact ⟨_, ReadsW.none⟩
  | .bool b, _, _, x, r => by
    cases x
    cases r
    exact ⟨_, ReadsW.bool b⟩
  | .int i, _, _, x, r => by
    cases x
    obtain ⟨t, rfl⟩ := r
    exact ⟨_, ReadsW.int i t⟩
  | .str s, _, _, x, r => by
    cases x
    obtain ⟨t, rfl⟩ := r
    exact ⟨_, ReadsW.str s t⟩
  | .bytes b, _, _, x, r => by
    cases x
    obtain ⟨t, rfl⟩ := r
    exact ⟨_, ReadsW.bytes _ t⟩
  | .list ds, _, _, x, r => by
    cases x with
    | lst hs ha =>
      cases r
      obtain ⟨its, o, n, rv, ho, hc, hd⟩ := sqL_at hok KX hs
      obtain ⟨as, hr⟩ := Dw.readsAll hok KX ds _ its ha rv
      exact ⟨_, ReadsW.list ho hc hd hr⟩
  | .tuple ds, _, _, x, r => by
    cases x with
    | tup hs ha =>
      cases r
      obtain ⟨its, o, n, rv, ho, hc, hd⟩ := sqT_at hok KX hs
      obtain ⟨as, hr⟩ := Dw.readsAll hok KX ds _ its ha rv
      exact ⟨_, ReadsW.tuple ho hc hd hr⟩
  | .float _, _, _, x, _ => by cases x
  | .dict _, _, _, x, _ => by cases x
  | .bytearray _, _, _, x, _ => by cases x
  | .set _, _, _, x, _ => by cases x
  | .frozenset _, _, _, x, _ => by cases x
  | .obj _ _, _, _, x, _ => by cases x
theorem Dw.readsAll (hok : HOk P w H h) (KX : K.In h) : ∀ (ds : List WData) (vs : List V) (us : List Value), DwAll K H vs ds → Vals vs us → ∃ as, ReadsAllW R cl h us ds as
  | [], _, _, x, r => by
    cases x
    cases r
    exact ⟨_, ReadsAllW.nil⟩
  | d :: ds, _, _, x, r => by
    cases x with
    | cons h1 h2 =>
      cases r with
      | cons r1 r2 =>
        obtain ⟨as, q1⟩ := Dw.reads hok KX d _ _ h1 r1
        obtain ⟨bs, q2⟩ := Dw.readsAll hok KX ds _ _ h2 r2
        exact ⟨_, ReadsAllW.cons q1 q2⟩
end
end
/-! ### the arguments -/
mutual
def plW : WData → Bool
  | .none => true
  | .bool _ => true
  | .int _ => true
  | .str _ => true
  | .bytes _ => true
  | .list xs => plWs xs
  | .tuple xs => plWs xs
  | _ => false
def plWs : List WData → Bool
  | [] => true
  | x :: r => plW x && plWs r
end
theorem plWs_map {α : Type} {f : α → WData} (h : ∀ a, plW (f a) = true) : ∀ l : List α, plWs (l.map f) = true
  | [] => rfl
  | x :: r => by
    show (plW (f x) && plWs (r.map f)) = true
    rw [h x, plWs_map h r] <;> rfl
theorem pl_enc : ∀ (c : Codec) (a : c.denote), plW (c.enc a) = true
  | .unit, _ => rfl
  | .bool, _ => rfl
  | .int _ _, _ => rfl
  | .nat _ _, _ => rfl
  | .u8, _ => rfl
  | .bytes _ _, _ => rfl
  | .text _ _ _ _, _ => rfl
  | .list _ _ c, a => plWs_map (fun x => pl_enc c x) a
  | .pair c d, a => by
    show (plW (c.enc a.1) && (plW (d.enc a.2) && true)) = true
    rw [pl_enc c a.1, pl_enc d a.2] <;> rfl
  | .triple c d e, a => by
    show (plW (c.enc a.1) && (plW (d.enc a.2.1) && (plW (e.enc a.2.2) && true))) = true
    rw [pl_enc c a.1, pl_enc d a.2.1, pl_enc e a.2.2] <;> rfl
  | .option c, none => rfl
  | .option c, some x => pl_enc c x
theorem pl_encAll : ∀ (cs : List Codec) (a : Codec.denoteAll cs), plWs (Codec.encAll cs a) = true
  | [], _ => rfl
  | c :: cs, a => by
    show (plW (c.enc a.1) && plWs (Codec.encAll cs a.2)) = true
    rw [pl_enc c a.1, pl_encAll cs a.2] <;> rfl
theorem weight_mem : ∀ {xs : List WData} {d : WData}, d ∈ xs → d.weight ≤ WData.weightAll xs
  | [], d, h => absurd h (by simp)
  | x :: r, d, h => by
    show d.weight ≤ x.weight + 1 + WData.weightAll r
    rcases List.mem_cons.mp h with e | m
    · rw [e]
      omega
    · have z := weight_mem m
      omega
def toV : Value → V
  | .none => .non
  | .bool b => .bl b
  | .int i _ => .int i
  | .str x _ => .str x
  | .bytes b _ => .byt b
  | .ref a => .ref a
  | _ => .non
def OkU (A : List Addr) : Value → Prop
  | .none => True
  | .bool _ => True
  | .int _ _ => True
  | .str _ _ => True
  | .bytes _ _ => True
  | .ref a => a ∈ A
  | _ => False
theorem OkU.mono {A B : List Addr} (h : ∀ a ∈ A, a ∈ B) : ∀ {u : Value}, OkU A u → OkU B u := fun {u} x => by
  cases u with
  | ref a => exact h a x
  | none => trivial
  | bool b => trivial
  | int i t => trivial
  | str s t => trivial
  | bytes b t => trivial
  | _ => exact False.elim x
theorem relV_toV {A : List Addr} {u : Value} (x : OkU A u) : RelV (toV u) u := by
  cases u with
  | ref a => rfl
  | none => rfl
  | bool b => rfl
  | int i t => exact ⟨t, rfl⟩
  | str s t => exact ⟨t, rfl⟩
  | bytes b t => exact ⟨t, rfl⟩
  | _ => exact False.elim x
theorem vals_toV {A : List Addr} : ∀ {vs : List Value}, (∀ u ∈ vs, OkU A u) → Vals (vs.map toV) vs
  | [], _ => .nil
  | u :: r, h => .cons (relV_toV (h u (List.mem_cons_self ..))) (vals_toV fun x hx => h x (List.mem_cons_of_mem _ hx))
def ArgOb (h : Heap) (A : List Addr) (a : Addr) : Prop := ∃ vs : List Value, vs.length ≤ sizeLine ∧ (∀ u ∈ vs, OkU A u) ∧
  (h.get? a = some { cls := .type "list", data := .seq vs.toArray } ∨ h.get? a = some { cls := .type "tuple", data := .seq vs.toArray })
theorem ArgOb.mono {h : Heap} {A B : List Addr} {a : Addr} (k : ∀ a ∈ A, a ∈ B) (x : ArgOb h A a) : ArgOb h B a := by
  obtain ⟨vs, h1, h2, h3⟩ := x
  exact ⟨vs, h1, fun u hu => (h2 u hu).mono k, h3⟩
theorem wellAll_len {P : Params} {h : Heap} : ∀ {vs : List Value} {ds : List WData}, WellAll P h vs ds → vs.length = ds.length
  | _, _, .nil => rfl
  | _, _, .cons _ b => by
    show _ + 1 = _ + 1
    rw [wellAll_len b]
theorem well_list {P : Params} {h : Heap} {v : Value} {ds : List WData} (x : Well P h v (.list ds)) : ∃ (a : Addr) (vs : List Value), v = .ref a ∧ h.get? a = some { cls := .type "list", data := .seq vs.toArray } ∧ WellAll P h vs ds := by
  cases x with
  | list ho hall => exact ⟨_, _, rfl, ho, hall⟩
theorem well_tuple {P : Params} {h : Heap} {v : Value} {ds : List WData} (x : Well P h v (.tuple ds)) : ∃ (a : Addr) (vs : List Value), v = .ref a ∧ h.get? a = some { cls := .type "tuple", data := .seq vs.toArray } ∧ WellAll P h vs ds := by
  cases x with
  | tuple ho hall => exact ⟨_, _, rfl, ho, hall⟩
theorem well_cons {P : Params} {h : Heap} {us : List Value} {d : WData} {ds : List WData} (x : WellAll P h us (d :: ds)) : ∃ (v : Value) (vs : List Value), us = v :: vs ∧ Well P h v d ∧ WellAll P h vs ds := by
  cases x with
  | cons a b => exact ⟨_, _, rfl, a, b⟩
theorem line_of {n : Nat} (h : n ≤ 1048576) : n ≤ sizeLine := Nat.le_trans h (by decide)
section
variable {P : Params} {h : Heap}
mutual
theorem area_one : ∀ (d : WData) (v : Value), Well P h v d → plW d = true → d.weight ≤ 1048576 → ∃ A : List Addr, OkU A v ∧ ∀ a ∈ A, ArgOb h A a
  | .none, _, x, _, _ => by
    cases x
    exact ⟨[], trivial, fun a m => absurd m (by simp)⟩
  | .bool b, _, x, _, _ => by
    cases x
    exact ⟨[], trivial, fun a m => absurd m (by simp)⟩
  | .int i, _, x, _, _ => by
    cases x
    exact ⟨[], trivial, fun a m => absurd m (by simp)⟩
  | .str s, _, x, _, _ => by
    cases x
    exact ⟨[], trivial, fun a m => absurd m (by simp)⟩
  | .bytes b, _, x, _, _ => by
    cases x
    exact ⟨[], trivial, fun a m => absurd m (by simp)⟩
  | .list ds, _, x, p, z => by
    obtain ⟨a, vs, rfl, ho, hall⟩ := well_list x
    have z2 : WData.weightAll ds ≤ 1048576 := z
    obtain ⟨A, h1, h2⟩ := area_all ds _ hall p fun d hd => Nat.le_trans (weight_mem hd) z2
    have k : ∀ b ∈ A, b ∈ a :: A := fun b hb => List.mem_cons_of_mem _ hb
    refine ⟨a :: A, List.mem_cons_self .., fun b hb => ?_⟩
    rcases List.mem_cons.mp hb with e | m
    · rw [e]
      exact ⟨vs, line_of (by rw [wellAll_len hall]; exact Nat.le_trans (PySem.W.length_le_weightAllW ds) z2), fun u hu => (h1 u hu).mono k, .inl ho⟩
    · exact (h2 b m).mono k
  | .tuple ds, _, x, p, z => by
    obtain ⟨a, vs, rfl, ho, hall⟩ := well_tuple x
    have z2 : WData.weightAll ds ≤ 1048576 := z
    obtain ⟨A, h1, h2⟩ := area_all ds _ hall p fun d hd => Nat.le_trans (weight_mem hd) z2
    have k : ∀ b ∈ A, b ∈ a :: A := fun b hb => List.mem_cons_of_mem _ hb
    refine ⟨a :: A, List.mem_cons_self .., fun b hb => ?_⟩
    rcases List.mem_cons.mp hb with e | m
    · rw [e]
      exact ⟨vs, line_of (by rw [wellAll_len hall]; exact Nat.le_trans (PySem.W.length_le_weightAllW ds) z2), fun u hu => (h1 u hu).mono k, .inr ho⟩
    · exact (h2 b m).mono k
  | .float _, _, _, p, _ => Bool.noConfusion (show false = true from p)
  | .dict _, _, _, p, _ => Bool.noConfusion (show false = true from p)
  | .bytearray _, _, _, p, _ => Bool.noConfusion (show false = true from p)
  | .set _, _, _, p, _ => Bool.noConfusion (show false = true from p)
  | .frozenset _, _, _, p, _ => Bool.noConfusion (show false = true from p)
  | .obj _ _, _, _, p, _ => Bool.noConfusion (show false = true from p)
theorem area_all : ∀ (ds : List WData) (vs : List Value), WellAll P h vs ds → plWs ds = true → (∀ d ∈ ds, d.weight ≤ 1048576) → ∃ A : List Addr, (∀ u ∈ vs, OkU A u) ∧ ∀ a ∈ A, ArgOb h A a
  | [], _, x, _, _ => by
    cases x
    exact ⟨[], fun u m => absurd m (by simp), fun a m => absurd m (by simp)⟩
  | d :: ds, _, x, p, z => by
    obtain ⟨v, vs, rfl, x1, x2⟩ := well_cons x
    have q : plW d = true ∧ plWs ds = true := Bool.and_eq_true_iff.mp p
    obtain ⟨A, a1, a2⟩ := area_one d v x1 q.1 (z d (List.mem_cons_self ..))
    obtain ⟨B, b1, b2⟩ := area_all ds vs x2 q.2 fun e he => z e (List.mem_cons_of_mem _ he)
    have kA : ∀ b ∈ A, b ∈ A ++ B := fun b hb => List.mem_append.mpr (.inl hb)
    have kB : ∀ b ∈ B, b ∈ A ++ B := fun b hb => List.mem_append.mpr (.inr hb)
    refine ⟨A ++ B, fun u hu => ?_, fun b hb => ?_⟩
    · rcases List.mem_cons.mp hu with e | m
      · rw [e]
        exact a1.mono kA
      · exact (b1 u m).mono kB
    · rcases List.mem_append.mp hb with m | m
      · exact (a2 b m).mono kA
      · exact (b2 b m).mono kB
end
end
def hoOf (o : Obj) : Option HO := match o.data with
  | .seq vs _ => if (o.cls == Value.type "list") = true then some (.frz o (.lst (vs.toList.map toV))) else some (.frz o (.tup (vs.toList.map toV)))
  | _ => none
def argH (K : PySem.W.Frag) (h : Heap) (A : List Addr) : Hp := fun b => if b ∈ A then (if (K.lookup b).isNone = true then (h.get? b).bind hoOf else none) else none
def OnlyF (H : Hp) : Prop := ∀ b, H b = none ∨ ∃ o u, H b = some (.frz o u)
theorem hoOf_lst (vs : List Value) : hoOf { cls := .type "list", data := .seq vs.toArray } = some (.frz { cls := .type "list", data := .seq vs.toArray } (.lst (vs.map toV))) := by
  show (if (Value.type "list" == Value.type "list") = true then some (HO.frz { cls := .type "list", data := .seq vs.toArray } (.lst (vs.toArray.toList.map toV))) else some (HO.frz { cls := .type "list", data := .seq vs.toArray } (.tup (vs.toArray.toList.map toV)))) = _
  rw [if_pos (beq_self_eq_true _)]
theorem hoOf_tup (vs : List Value) : hoOf { cls := .type "tuple", data := .seq vs.toArray } = some (.frz { cls := .type "tuple", data := .seq vs.toArray } (.tup (vs.map toV))) := by
  show (if (Value.type "tuple" == Value.type "list") = true then some (HO.frz { cls := .type "tuple", data := .seq vs.toArray } (.lst (vs.toArray.toList.map toV))) else some (HO.frz { cls := .type "tuple", data := .seq vs.toArray } (.tup (vs.toArray.toList.map toV)))) = _
  rw [if_neg (by decide)]
section
variable {P : Program} {w : World} {K : PySem.W.Frag} {h : Heap} {A : List Addr}
theorem argH_at {b : Addr} {o : Obj} (hb : b ∈ A) (hk : K.lookup b = none) (e : h.get? b = some o) : argH K h A b = hoOf o := by
  unfold argH
  rw [if_pos hb, hk, if_pos (show (none : Option Obj).isNone = true from rfl), e] <;> rfl
theorem of_argH {b : Addr} {u : HO} (q : argH K h A b = some u) : b ∈ A ∧ K.lookup b = none := by
  unfold argH at q
  by_cases hb : b ∈ A
  · rw [if_pos hb] at q
    cases hk : K.lookup b with
    | none => exact ⟨hb, rfl⟩
    | some o =>
      rw [hk, if_neg (by simp)] at q
      cases q
  · rw [if_neg hb] at q
    cases q
theorem argH_is (ar : ∀ a ∈ A, ArgOb h A a) {b : Addr} {u : HO} (q : argH K h A b = some u) : K.lookup b = none ∧ ∃ vs : List Value, vs.length ≤ sizeLine ∧ (∀ u ∈ vs, OkU A u) ∧
    ((h.get? b = some { cls := .type "list", data := .seq vs.toArray } ∧ u = .frz { cls := .type "list", data := .seq vs.toArray } (.lst (vs.map toV))) ∨
     (h.get? b = some { cls := .type "tuple", data := .seq vs.toArray } ∧ u = .frz { cls := .type "tuple", data := .seq vs.toArray } (.tup (vs.map toV)))) := by
  obtain ⟨hb, hk⟩ := of_argH q
  obtain ⟨vs, h1, h2, h3⟩ := ar b hb
  refine ⟨hk, vs, h1, h2, ?_⟩
  rcases h3 with e | e
  · rw [argH_at hb hk e, hoOf_lst] at q
    exact .inl ⟨e, (Option.some.inj q).symm⟩
  · rw [argH_at hb hk e, hoOf_tup] at q
    exact .inr ⟨e, (Option.some.inj q).symm⟩
theorem argH_only (ar : ∀ a ∈ A, ArgOb h A a) : OnlyF (argH K h A) := fun b => by
  cases q : argH K h A b with
  | none => exact .inl rfl
  | some u =>
    obtain ⟨_, vs, _, _, ⟨_, e⟩ | ⟨_, e⟩⟩ := argH_is ar q
    · exact .inr ⟨_, _, by rw [e]⟩
    · exact .inr ⟨_, _, by rw [e]⟩
theorem argH_ok (ar : ∀ a ∈ A, ArgOb h A a) : HOk P w (argH K h A) h := fun b u q => by
  obtain ⟨_, vs, h1, h2, ⟨e, rfl⟩ | ⟨e, rfl⟩⟩ := argH_is ar q
  · exact ⟨e, by rw [List.length_map]; exact h1, vs, _, vals_toV h2, e⟩
  · exact ⟨e, by rw [List.length_map]; exact h1, vs, vals_toV h2, _, e, rfl, _, rfl⟩
theorem seq_inj {c c' : Value} {vs us : List Value} (e : (some { cls := c, data := .seq vs.toArray } : Option Obj) = some { cls := c', data := .seq us.toArray }) : c = c' ∧ vs = us := by
  have e1 := Option.some.inj e
  have e2 : c = c' := congrArg Obj.cls e1
  have e3 : Data.seq vs.toArray = Data.seq us.toArray := congrArg Obj.data e1
  injection e3 with e4
  refine ⟨e2, ?_⟩
  have e5 := congrArg Array.toList e4
  simpa using e5
theorem argL (KX : K.In h) (ar : ∀ a ∈ A, ArgOb h A a) {a : Addr} {vs : List Value} (ha : a ∈ A) (e : h.get? a = some { cls := .type "list", data := .seq vs.toArray }) : (∀ u ∈ vs, OkU A u) ∧ SqL K (argH K h A) a (vs.map toV) := by
  obtain ⟨us, h1, h2, h3⟩ := ar a ha
  have hu : us = vs := by
    rcases h3 with q | q
    · rw [e] at q
      exact (seq_inj q).2.symm
    · rw [e] at q
      exact absurd (Value.type.inj (seq_inj q).1) (by decide)
  subst hu
  refine ⟨h2, ?_⟩
  cases hk : K.lookup a with
  | none => exact .inl (.inr ⟨_, by rw [argH_at ha hk e, hoOf_lst]⟩)
  | some o =>
    have e2 := KX a o hk
    rw [e] at e2
    obtain rfl := Option.some.inj e2
    exact .inr ⟨_, us.toArray, _, hk, rfl, rfl, rfl, by rw [List.size_toArray]; exact h1, by simpa using vals_toV h2⟩
theorem argT (KX : K.In h) (ar : ∀ a ∈ A, ArgOb h A a) {a : Addr} {vs : List Value} (ha : a ∈ A) (e : h.get? a = some { cls := .type "tuple", data := .seq vs.toArray }) : (∀ u ∈ vs, OkU A u) ∧ SqT K (argH K h A) a (vs.map toV) := by
  obtain ⟨us, h1, h2, h3⟩ := ar a ha
  have hu : us = vs := by
    rcases h3 with q | q
    · rw [e] at q
      exact absurd (Value.type.inj (seq_inj q).1) (by decide)
    · rw [e] at q
      exact (seq_inj q).2.symm
  subst hu
  refine ⟨h2, ?_⟩
  cases hk : K.lookup a with
  | none => exact .inl (.inr ⟨_, by rw [argH_at ha hk e, hoOf_tup]⟩)
  | some o =>
    have e2 := KX a o hk
    rw [e] at e2
    obtain rfl := Option.some.inj e2
    exact .inr ⟨_, us.toArray, _, hk, rfl, rfl, by rw [List.size_toArray]; exact h1, by simpa using vals_toV h2⟩
mutual
theorem dw_one {Pm : Params} (KX : K.In h) (ar : ∀ a ∈ A, ArgOb h A a) : ∀ (d : WData) (v : Value), Well Pm h v d → plW d = true → OkU A v → Dw K (argH K h A) (toV v) d
  | .none, _, x, _, _ => by
    cases x
    exact .non
  | .bool b, _, x, _, _ => by
    cases x
    exact .bl b
  | .int i, _, x, _, _ => by
    cases x
    exact .int i
  | .str s, _, x, _, _ => by
    cases x
    exact .str s
  | .bytes b, _, x, _, _ => by
    cases x
    have z := Dw.byt (K := K) (H := argH K h A) b.toArray
    exact z
  | .list ds, _, x, p, hu => by
    obtain ⟨a, vs, rfl, ho, hall⟩ := well_list x
    obtain ⟨h2, hs⟩ := argL KX ar hu ho
    exact .lst hs (dw_all KX ar ds _ hall p h2)
  | .tuple ds, _, x, p, hu => by
    obtain ⟨a, vs, rfl, ho, hall⟩ := well_tuple x
    obtain ⟨h2, hs⟩ := argT KX ar hu ho
    exact .tup hs (dw_all KX ar ds _ hall p h2)
  | .float _, _, _, p, _ => Bool.noConfusion (show false = true from p)
  | .dict _, _, _, p, _ => Bool.noConfusion (show false = true from p)
  | .bytearray _, _, _, p, _ => Bool.noConfusion (show false = true from p)
  | .set _, _, _, p, _ => Bool.noConfusion (show false = true from p)
  | .frozenset _, _, _, p, _ => Bool.noConfusion (show false = true from p)
  | .obj _ _, _, _, p, _ => Bool.noConfusion (show false = true from p)
theorem dw_all {Pm : Params} (KX : K.In h) (ar : ∀ a ∈ A, ArgOb h A a) : ∀ (ds : List WData) (vs : List Value), WellAll Pm h vs ds → plWs ds = true → (∀ u ∈ vs, OkU A u) → DwAll K (argH K h A) (vs.map toV) ds
  | [], _, x, _, _ => by
    cases x
    exact .nil
  | d :: ds, _, x, p, hu => by
    obtain ⟨v, vs, rfl, x1, x2⟩ := well_cons x
    have q : plW d = true ∧ plWs ds = true := Bool.and_eq_true_iff.mp p
    exact .cons (dw_one KX ar d v x1 q.1 (hu _ (List.mem_cons_self ..))) (dw_all KX ar ds vs x2 q.2 fun u m => hu u (List.mem_cons_of_mem _ m))
end
end
/-! ### the call -/
/-! ### the row -/
theorem layable_weight {ds : List WData} (h : WData.layableAll ds = true) : ∀ d ∈ ds, d.weight ≤ 1048576 := fun d hd =>
  (PySem.W.layableW_iff.mp (List.all_eq_true.mp h d hd)).2.2
theorem encAll_len : ∀ (cs : List Codec) (a : Codec.denoteAll cs), (Codec.encAll cs a).length = cs.length
  | [], _ => rfl
  | c :: cs, a => by
    show (Codec.encAll cs a.2).length + 1 = cs.length + 1
    rw [encAll_len cs a.2]
end L2
-- rests on (row put in by the clerk, for the bench that shows a file only what it spells): KE.SpHead KE.OsShapes
end
set_option Elab.async false
set_option linter.all false
set_option maxRecDepth 100000
/-! EXCEPTIONS over the hand layer: raised, passed on through defs, loops and comprehensions, caught. -/
namespace L2
open PySem PySem.Spec PyProof.Rows
theorem ObjOk.get {P : Program} {w : World} {H : Hp} {h : Heap} {a : Addr} {o : HO} (x : ObjOk P w H h a o) : ∃ ob, h.get? a = some ob := by
  cases o with
  | lst xs => obtain ⟨_, _, _, _, e⟩ := x; exact ⟨_, e⟩
  | tup xs => obtain ⟨_, _, _, ob, e, _⟩ := x; exact ⟨_, e⟩
  | dK kvs => obtain ⟨_, _, _, _, ob, _, _, e, _⟩ := x; exact ⟨_, e⟩
  | dT kvs => obtain ⟨_, _, _, _, ob, _, _, e, _⟩ := x; exact ⟨_, e⟩
  | set S n => obtain ⟨ob, _, _, _, e, _⟩ := x; exact ⟨_, e⟩
  | ins C dx fs => obtain ⟨_, _, _, e, _⟩ := x; exact ⟨_, e⟩
  | own y => exact x
  | xd fs => obtain ⟨_, ⟨_, _, _, e, _⟩, _⟩ := x; exact ⟨_, e⟩
  | rng lo hi => obtain ⟨_, _, _, e⟩ := x; exact ⟨_, e⟩
  | frz ob u => obtain ⟨e, _⟩ := x; exact ⟨_, e⟩
  | tbl ps => exact ⟨_, (show h.get? a = some _ from x)⟩
  | met f y => exact ⟨_, (show h.get? a = some _ from x)⟩
  | ext φ => obtain ⟨_, e, _⟩ := x; exact e
structure Flown (P : Program) (w : World) (outer : List Env) (H : Hp) (s : Shared) (H' : Hp) (e : Addr) (cls : Value) (s' : Shared) : Prop where
  os : s'.os = s.os
  bare : AllBare s'.gens
  un : Un (frs outer) [] H H' s.heap s'.heap
  hok : HOk P w H' s'.heap
  fly : ∃ (B : Heap) (a0 : Value), Heap.FlyingW B outer e cls a0 s'.heap ∧ (∀ a o, H' a = some o → ∃ ob, B.get? a = some ob) ∧ ∀ b o, s.heap.get? b = some o → b ∉ frs outer → ∃ ob, B.get? b = some ob
def CXn (P : Program) (w : World) : CXT := fun outer H s E e s' => ∃ (ea : Addr) (cls : Value) (H' : Hp), e = .ref ea ∧ Flown P w outer H s H' ea cls s' ∧ E cls none H'
structure Thrown (X : Cx) (H' : Hp) (e : Addr) (cls : Value) (s' : Shared) : Prop where
  os : s'.os = X.s_0.os
  bare : AllBare s'.gens
  un : Un X.fs [] X.H_0 H' X.s_0.heap s'.heap
  hok : HOk X.prog X.w H' s'.heap
  fly : ∃ (B : Heap) (a0 fl : Value), (B.StaysIn s'.heap ∧ B.get? e = none ∧ s'.heap.FunFrames B X.stack ∧ s'.heap.TracedAtW B e cls a0 fl) ∧ (∀ a o, H' a = some o → ∃ ob, B.get? a = some ob) ∧
    ∀ b o, X.s_0.heap.get? b = some o → b ∉ X.fs → ∃ ob, B.get? b = some ob
structure Cx.Def (X : Cx) : Prop where
  ex : X.ex = []
  st : X.stack = X.env :: X.outer
  fr : X.env.frame = some X.env.locals
theorem Cx.Def.mem {X : Cx} (d : X.Def) {b : Addr} : b ∈ frs X.stack ↔ b = X.env.locals ∨ b ∈ X.fs := by
  have e : frs X.stack = X.env.locals :: X.fs := by
    rw [d.st]
    unfold frs
    rw [List.filterMap_cons, d.fr]
    rfl
  rw [e]
  exact List.mem_cons
section
variable {X : Cx} {pins : List (Addr × Obj)} {σ : St} {H H' : Hp} {s s' : Shared} {h2 h3 : Heap} {e : Addr} {cls : Value} {fp : List Addr}
theorem un_comp (I : Inv X pins σ H s) (d : X.Def) (u : Un (frs X.stack) fp H H' s.heap h2) (hfp : ∀ b ∈ fp, X.s_0.heap.objs.size ≤ b) : Un X.fs [] X.H_0 H' X.s_0.heap h2 := by
  have nex : ∀ b : Addr, b ∉ X.ex := fun b => by rw [d.ex]; simp
  have nfp : ∀ b o, X.s_0.heap.get? b = some o → b ∉ fp := fun b o q hb => absurd (Nat.lt_of_lt_of_le (Heap.lt_size q) (hfp b hb)) (Nat.lt_irrefl _)
  have nL : ∀ b o, X.s_0.heap.get? b = some o → b ≠ X.env.locals := fun b o q => Nat.ne_of_lt (Nat.lt_of_lt_of_le (Heap.lt_size q) I.ok.above)
  refine ⟨fun b o q n hb _ => ?_, fun b o q n hb _ => ?_, fun b o q n _ => ?_, fun b o q _ => ?_, fun b xs q => u.tups b xs (I.base.tups b xs q), fun b o v q => u.frzs b o v (I.base.frzs b o v q), fun b ps q => ?_⟩
  · exact u.keep b o (I.base.keep b o q n hb (nex b)) (I.base.free b o q n (nex b)) (fun z => (d.mem.mp z).elim (nL b o q) hb) (nfp b o q)
  · obtain ⟨sl, e1⟩ := I.base.slot b o q n hb (nex b)
    obtain ⟨sl2, e2⟩ := u.any e1 (I.base.free b o q n (nex b)) (nfp b o q)
    exact ⟨sl2, e2⟩
  · obtain ⟨o1, e1⟩ := I.base.there b o q (nex b)
    exact u.free b o1 e1 (I.base.free b o q n (nex b)) (nfp b o q)
  · obtain ⟨o1, e1⟩ := I.base.there b o q (nex b)
    exact u.there b o1 e1 (nfp b o q)
  · obtain ⟨m1, e1⟩ := I.base.tbls b ps q
    obtain ⟨m2, e2⟩ := u.tbls b _ e1
    exact ⟨m1 ++ m2, by rw [e2, Array.append_assoc]⟩
theorem un_on {fs : List Addr} {h0 B : Heap} (u : Un fs [] H H' h0 h2) (old : ∀ b o, h0.get? b = some o → b ∉ fs → ∃ ob, B.get? b = some ob) (s2 : B.StaysIn h2) (s3 : B.StaysIn h3)
    (up : ∀ b o, b ∈ fs → h2.get? b = some o → (∀ vs, o.data ≠ .fields vs) → ∃ sl, h3.get? b = some { o with slots := sl }) (fr : ∀ b ∈ fs, H b = none ∧ ∃ o, h0.get? b = some o ∧ ∀ vs, o.data ≠ .fields vs) : Un fs [] H H' h0 h3 := by
  have sl : ∀ b o, h0.get? b = some o → b ∈ fs → ∃ sl, h3.get? b = some { o with slots := sl } := fun b o q hb => by
    obtain ⟨n, o', q', hd⟩ := fr b hb
    rw [q] at q'
    cases q'
    obtain ⟨sl, e1⟩ := u.slot b o q n hb (by simp)
    obtain ⟨sl2, e2⟩ := up b _ hb e1 hd
    exact ⟨sl2, e2⟩
  refine ⟨fun b o q n hb hx => ?_, fun b o q _ hb _ => sl b o q hb, u.free, fun b o q _ => ?_, u.tups, u.frzs, u.tbls⟩
  · obtain ⟨ob, e1⟩ := old b o q hb
    have e2 := s2 b ob e1
    rw [u.keep b o q n hb hx] at e2
    cases e2
    exact s3 b o e1
  · by_cases hb : b ∈ fs
    · obtain ⟨sl1, e1⟩ := sl b o q hb
      exact ⟨_, e1⟩
    · obtain ⟨ob, e1⟩ := old b o q hb
      exact ⟨ob, s3 b ob e1⟩
theorem hok_on {P : Program} {w : World} {B : Heap} (hok : HOk P w H' h2) (trk : ∀ a o, H' a = some o → ∃ ob, B.get? a = some ob) (s2 : B.StaysIn h2) (s3 : B.StaysIn h3) : HOk P w H' h3 := fun a o q =>
  (hok a o q).stay (fun b v hb e1 => by
    have t : ∃ ob, B.get? b = some ob := by
      rcases hb with z | z
      · rw [z]; exact trk a o q
      · exact trk b _ z
    obtain ⟨ob, e2⟩ := t
    have e3 := s2 b ob e2
    rw [e1] at e3
    cases e3
    exact s3 b v e2) (fun _ z => z) fun _ _ z => z
theorem Inv.frOk (I : Inv X pins σ H s) : ∀ b ∈ X.fs, X.H_0 b = none ∧ ∃ o, X.s_0.heap.get? b = some o ∧ ∀ vs, o.data ≠ .fields vs := fun b hb => ⟨I.ok.frf b hb, (I.ok.funs.mem hb).2⟩
theorem thrown_call (I : Inv X pins σ H s) (d : X.Def) (F : Flown X.prog X.w X.stack H s H' e cls s') : Thrown X H' e cls s' := by
  obtain ⟨B, a0, ⟨f1, f2, f3, f4⟩, trk, old⟩ := F.fly
  refine ⟨F.os.trans I.os, F.bare, un_comp I d F.un (fun b hb => nomatch hb), F.hok, B, a0, .none, ⟨f1, f2, f3, f4.at⟩, trk, fun b o q hb => ?_⟩
  obtain ⟨o1, e1⟩ := I.base.there b o q (by rw [d.ex]; simp)
  exact old b o1 e1 fun z => (d.mem.mp z).elim (Nat.ne_of_lt (Nat.lt_of_lt_of_le (Heap.lt_size q) I.ok.above)) hb
end
section
variable {M : Model} {A : Around} {E : Value → Shared → Prop} {s : Shared} {B : Heap} {env : Env} {l outer : List Env} {L e : Addr} {cls a0 fl : Value}
theorem mark_at (k1 : B.StaysIn s.heap) (k3 : s.heap.FunFrames B l) {oT : Obj} {T : Addr} {ts : Array Value} {v : Value} (nT : B.get? T = none) (gT : s.heap.get? T = some oT) (dT : oT.data = .fields ts) :
    B.StaysIn (s.heap.update T (Obj.mapFields (·.setIfInBounds 3 v))) ∧ (s.heap.update T (Obj.mapFields (·.setIfInBounds 3 v))).FunFrames B l ∧
      (∀ b o, s.heap.get? b = some o → (∀ vs, o.data ≠ .fields vs) → (s.heap.update T (Obj.mapFields (·.setIfInBounds 3 v))).get? b = some o) ∧
      (∀ b, b ≠ T → (s.heap.update T (Obj.mapFields (·.setIfInBounds 3 v))).get? b = s.heap.get? b) := by
  have oth : ∀ b, b ≠ T → (s.heap.update T (Obj.mapFields (·.setIfInBounds 3 v))).get? b = s.heap.get? b := fun b hb => Heap.get?_update_other _ _ (Ne.symm hb)
  have nr : ∀ b o, s.heap.get? b = some o → (∀ vs, o.data ≠ .fields vs) → b ≠ T := fun b o hb hn z => by
    rw [z, gT] at hb
    cases hb
    exact hn ts dT
  refine ⟨fun b o q => ?_, ?_, fun b o q hn => (oth b (nr b o q hn)).trans q, oth⟩
  · exact (oth b fun z => by rw [z, nT] at q; cases q).trans (k1 b o q)
  · exact k3.of_keeps fun b o q hn => ⟨o, (oth b (nr b o q hn)).trans q, rfl⟩
theorem leave_at {Q : Unit → Shared → Prop} (hfr : A.frames = some (env :: outer)) (hf : env.frame = some L) (k1 : B.StaysIn s.heap) (k2 : B.get? e = none) (k3 : s.heap.FunFrames B (env :: outer)) (k4 : s.heap.TracedAtW B e cls a0 fl)
    (hQ : ∀ h', Heap.FlyingW B outer e cls a0 h' → s.heap.UpToSlots h' → Q () { s with heap := h' }) : wpAny M A (leaving env (.ref e)) Q E s := by
  obtain ⟨ob, us, T, oT, ts, ge, gc, gd, g1, nT, nTe, gT, dT, g3⟩ := id k4
  unfold leaving noteFrame
  simp only [hf]
  refine wpAny_bind (wpAny_bind (wpAny_field ge gd g1 ?_))
  rw [if_pos (show (Value.ref T != Value.none) = true by simp)]
  refine wpAny_bind (wpAny_field gT dT g3 ?_)
  by_cases hq : (fl == rawInt L) = true
  · rw [if_pos hq]
    refine wpAny_pure ?_
    exact wpAny_setFlight_noneW k1 k3 k4 fun h' q1 q2 q3 q4 => hQ h' ⟨q1, k2, q2.2.2, q3⟩ fun b o hb hn => ⟨o.slots, q4 b o hb hn⟩
  · rw [if_neg hq]
    refine wpAny_bind (wpAny_setField gT dT (Array.getElem?_eq_some_iff.mp g3).1 ?_)
    obtain ⟨m1, m2, m3, m4⟩ := mark_at (v := .none) k1 k3 nT gT dT
    refine wpAny_newEntryW hfr m2 hf ((m4 e (Ne.symm nTe)).trans ge) m1 k2 gd (Array.getElem?_eq_some_iff.mp g1).1 gc.2 fun h' hL => ?_
    obtain ⟨y1, y2, y3, y4⟩ := hL
    rw [gc.1] at y3
    exact hQ h' ⟨y1, k2, y2.2.2, y3⟩ fun b o hb hn => y4 b o (m3 b o hb hn) hn
end
section
variable {M : Model} {X : Cx} {pins : List (Addr × Obj)} {σ : St} {H H' : Hp} {s s' : Shared} {e : Addr} {cls : Value} {E : Value → Shared → Prop} {Q : Unit → Shared → Prop}
theorem leave_thrown (ok : X.Ok) (d : X.Def) (T : Thrown X H' e cls s') (hQ : ∀ s'', Flown X.prog X.w X.outer X.H_0 X.s_0 H' e cls s'' → Q () s'') : wpAny M X.A (leaving X.env (.ref e)) Q E s' := by
  obtain ⟨B, a0, fl, ⟨f1, f2, f3, f4⟩, trk, old⟩ := T.fly
  have hfr : X.A.frames = some (X.env :: X.outer) := by rw [← d.st]; exact ok.frames
  rw [d.st] at f3
  refine leave_at hfr d.fr f1 f2 f3 f4 fun h' fly up => ?_
  have fr : ∀ b ∈ X.fs, X.H_0 b = none ∧ ∃ o, X.s_0.heap.get? b = some o ∧ ∀ vs, o.data ≠ .fields vs := fun b hb => ⟨ok.frf b hb, (ok.funs.mem hb).2⟩
  exact hQ { s' with heap := h' } ⟨T.os, T.bare, un_on T.un old f1 fly.1 (fun b o _ q hn => up b o q hn) fr, hok_on T.hok trk f1 fly.1, B, a0, fly, trk, old⟩
theorem leave_made {h' : Heap} (I : Inv X pins σ H s) (d : X.Def) (hx : Heap.MadeExcOf s.heap h' e cls []) (hQ : ∀ s'', Flown X.prog X.w X.outer X.H_0 X.s_0 H e cls s'' → Q () s'') :
    wpAny M X.A (leaving X.env (.ref e)) Q E { s with heap := h' } := by
  have hfr : X.A.frames = some (X.env :: X.outer) := by rw [← d.st]; exact I.ok.frames
  have hin : ∀ env ∈ X.stack, ∀ b, env.frame = some b → b ∈ frs X.stack := fun env he b hb => List.mem_filterMap.mpr ⟨env, he, hb⟩
  have hfun0 : s.heap.FunFrames (PySem.W.hideAll s.heap (frs X.stack)) X.stack := PySem.W.funFrames_hide I.stack hin
  have hfun : s.heap.FunFrames (PySem.W.hideAll s.heap (frs X.stack)) (X.env :: X.outer) := d.st ▸ hfun0
  have sb : (PySem.W.hideAll s.heap (frs X.stack)).StaysIn s.heap := fun b o q => PySem.W.of_hideAll _ q
  have sb2 : (PySem.W.hideAll s.heap (frs X.stack)).StaysIn h' := fun b o q => hx.keeps b o (sb b o q)
  have trk : ∀ a o, H a = some o → ∃ ob, (PySem.W.hideAll s.heap (frs X.stack)).get? a = some ob := fun a o q => by
    obtain ⟨ob, g⟩ := (I.hok a o q).get
    exact ⟨ob, PySem.W.hideAll_get _ g fun z => by rw [I.stkFree a z] at q; cases q⟩
  have old : ∀ b o, X.s_0.heap.get? b = some o → b ∉ X.fs → ∃ ob, (PySem.W.hideAll s.heap (frs X.stack)).get? b = some ob := fun b o q hb => by
    obtain ⟨o1, e1⟩ := I.base.there b o q (by rw [d.ex]; simp)
    exact ⟨o1, PySem.W.hideAll_get _ e1 fun z => (d.mem.mp z).elim (Nat.ne_of_lt (Nat.lt_of_lt_of_le (Heap.lt_size q) I.ok.above)) hb⟩
  have u1 : Un X.fs [] X.H_0 H X.s_0.heap h' := un_comp I d (fp := []) (Un.kept hx.keeps) fun b hb => nomatch hb
  refine wpAny_leaves_madeW (s := { s with heap := h' }) hfr d.fr sb hfun hx fun h'' t x1 _ _ x4 => ?_
  exact hQ { s with heap := h'' } ⟨I.os, I.bare, un_on u1 old sb2 x1.1 (fun b o _ q hn => x4 b o q hn) I.frOk, hok_on (I.hok.kept hx.keeps) trk sb2 x1.1, _, _, x1, trk, old⟩
end
/-! ### own exceptions of the text -/
abbrev bmE : List Value := [.type "Exception", .type "BaseException", .type "object"]
theorem exc_obj {K : PySem.W.Frag} {h : Heap} {C : Addr} {bmB : List Value} {newId : String} (Y : K.In h) (q : PySem.W.excIn K C bmB newId = true) :
    ∃ tl N nm qn bs hdct sn sub ab col dd k0 k1 k2 k3 k5 mN, h.get? C = some (excClassObj nm qn C N bs tl hdct sn sub ab col dd k0 k1 k2 k3 k5 newId) ∧ h.Ns N mN ∧ mN "__init__" = none ∧ OwnTail h bmB tl := by
  unfold PySem.W.excIn at q
  split at q
  case h_2 => cases q
  case h_1 a1 a2 a3 a4 a5 =>
    split at q
    case h_2 => cases q
    case h_1 b1 b2 b3 b4 b5 b6 b7 b8 b9 b10 =>
      simp only [Bool.and_eq_true, beq_iff_eq, Bool.not_eq_true'] at q
      obtain ⟨⟨⟨⟨⟨rfl, rfl⟩, c3⟩, c4⟩, c5⟩, c6⟩ := q
      obtain ⟨nm, bs, mro, ns, qn, hd, sn, sub, ab, col, del⟩ := a3
      dsimp only at b9 c3 c5 c6
      subst b9 c3
      have e4 : a4 = #[b3, b4, b5, b6, some (.builtin b7), b8] := by
        obtain ⟨l⟩ := a4
        simp only at b10
        rw [b10]
      subst e4
      exact ⟨b2, ns, nm, qn, bs, hd, sn, sub, ab, col, a2, b3, b4, b5, b6, b8, _, Y _ _ a5, .of_isNs (PySem.W.isNs_of_in Y c5), PySem.W.nsMap_none_of_in Y c5 c6, PySem.W.tail_of_in Y c4⟩
structure ExcC (K : PySem.W.Frag) (mg : Str → Option Value) (x : Str) (C : Addr) : Prop where
  mgx : mg x = some (.ref C)
  exc : PySem.W.excIn K C bmE "Exception.__new__" = true
section
variable {X : Cx} {x : Str} {C : Addr} {np cpos pos : Pos}
def tRaise (E : XK) (C : Addr) : TS := fun _ _ H => E (.ref C) none H
theorem ps_raise {E : XK} (hc : X.calm = true) (hg : Gl X x) (T : ExcC X.K X.mg x C)
    (hx : ∀ (pins : List (Addr × Obj)) (σ : St) (H : Hp) (s : Shared) (h' : Heap) (e : Addr), Inv X pins σ H s → Heap.MadeExcOf s.heap h' e (.ref C) [] → E (.ref C) none H → X.xe (.ref e) { s with heap := h' })
    (hd : (x == ("__debug__" : Str)) = false := by decide) : PS X (.Raise (some (.Call (.Name x np) [] [] cpos)) none pos) (tRaise E C) := by
  intro pins s σ H D I h
  obtain ⟨tl, N, nm, qn, bs, hdct, sn, sub, ab, col, dd, k0, k1, k2, k3, k5, mN, gC, gN, gi, gT⟩ := exc_obj I.kIn T.exc
  refine wpAny_Raise_call_subT (C := C) (nm := nm) (q := qn) (N := N) (bs := bs) (bm := tl) (hdct := hdct) (sn := sn) (sub := sub) (ab := ab) (col := col) (dd := dd) (k0 := k0) (k1 := k1) (k2 := k2) (k3 := k3) (k5 := k5)
    PySem.F.excBase_Exception (mN := mN) (gT.hasType PySem.F.excBase_Exception.hasBase) (I.ok.hd hc) rfl gi (ld_glob I hg T.mgx ⟨rfl, ?_⟩ hd)
  exact evalArgs_empty ⟨rfl, Nat.zero_le _, gC, gN, gT, fun h' e hm => hx pins σ H s h' e I hm h⟩
end
/-! ### in a def's own context -/
section
variable {P : Program} {w : World} {K : PySem.W.Frag} {mg : Str → Option Value} {base : Heap} {N : List Str} {qual : Str} {scope : Scope} {f : Addr} {cd : Value} {A : Around} {outer : List Env} {s : Shared} {H : Hp} {E : XK}
theorem def_cx {CX : CXT} : (cxOf CX P w K mg base N qual scope f cd A outer s H E).Def := ⟨rfl, rfl, rfl⟩
theorem passN : Passes (CXn P w) (cxOf (CXn P w) P w K mg base N qual scope f cd A outer s H E) E := fun pins σ H1 s1 e s' I h => by
  obtain ⟨ea, cls, H', rfl, F, q⟩ := h
  exact leave_thrown I.ok def_cx (thrown_call I def_cx F) fun s'' F' => ⟨ea, cls, H', rfl, F', q⟩
theorem madeN {C : Addr} : ∀ (pins : List (Addr × Obj)) (σ : St) (H1 : Hp) (s1 : Shared) (h' : Heap) (e : Addr), Inv (cxOf (CXn P w) P w K mg base N qual scope f cd A outer s H E) pins σ H1 s1 →
    Heap.MadeExcOf s1.heap h' e (.ref C) [] → E (.ref C) none H1 → (cxOf (CXn P w) P w K mg base N qual scope f cd A outer s H E).xe (.ref e) { s1 with heap := h' } := fun pins σ H1 s1 h' e I hm q =>
  leave_made I def_cx hm fun s'' F => ⟨e, _, H1, rfl, F, q⟩
theorem ownN : PassesOwn (model P w) (cxOf (CXn P w) P w K mg base N qual scope f cd A outer s H E).A (cxOf (CXn P w) P w K mg base N qual scope f cd A outer s H E).env (cxOf (CXn P w) P w K mg base N qual scope f cd A outer s H E).xe := PassesOwn.leaving
theorem Fun.okN {x : Str} {st : Stmt} {fd : FuncData} {ps : List Str} {k : Nat} {sp : Sp} (F : Fun K x qual st f fd) (S : FnScope N ps (defScope st)) (len : ∀ vs H Q E, sp vs H Q E → vs.length = ps.length)
    (hbody : ∀ (cdv : Value) (A : Around) (outer : List Env) (s : Shared) (H : Hp) (vs : List V) (Q : VK) (E : XK), Room k (A.deeper (envOfC qual (defScope st) s.heap.objs.size f cdv)) → sp vs H Q E →
      ∃ t, PSs (cxOf (CXn P w) P w K mg base N qual (defScope st) f cdv A outer s H E) (defBody st) t ∧ t { nx := fun _ H' => Q .non H', rt := Q } (start N vs) H) : FnOk P w K mg base (CXn P w) (k + 1) f fd ps sp := by
  obtain ⟨oc, od, kV, doc, pm, an, cdv, ct, osl, rfl, lk, hcd⟩ := F.ex
  exact fn_of lk hcd S len fun A outer s H vs Q E hr hsp => hbody cdv A outer s H vs Q E hr hsp
end
end L2
set_option Elab.async false
set_option linter.all false
set_option maxRecDepth 100000
/-! COMPREHENSIONS whose items may raise; zip in a loop and in a comprehension; wide numbers. -/
namespace L2
open PySem PySem.Spec PyProof.Rows
section
variable {X : Cx} {pins : List (Addr × Obj)} {σ : St} {H3 : Hp} {s3 : Shared} {scope : Scope} {ce : Env} {fp : List Addr} {E : XK} {use : Option (Value → Sem Unit)} {Qf : Value → Shared → Prop} {Dv : Value}
end
section
variable {P : Program} {w : World} {K : PySem.W.Frag} {mg : Str → Option Value} {base : Heap} {N : List Str} {qual : Str} {scope : Scope} {f : Addr} {cd : Value} {A : Around} {outer : List Env} {s : Shared} {H : Hp} {E : XK}
end
/-! ### zip -/
theorem for_zip {K : PySem.W.Frag} {a b : Addr} {xs ys : List V} {g : TG} {tb : TS} {D : Ends} {σ : St} {H : Hp} (Pv : Nat → St → Hp → Prop) (hlen : xs.length = ys.length) (h0 : Pv 0 σ H) (hl : ∀ i σ H, i ≤ xs.length → Pv i σ H → SqL K H a xs ∧ SqL K H b ys)
    (hs : ∀ i x y T σ H, xs[i]? = some x → ys[i]? = some y → Pv i σ H → H T = none → g (.ref T) σ (upd H T (.tup [x, y])) fun σ2 H2 => tb { D with nx := Pv (i + 1), ct := Pv (i + 1), bk := D.nx } σ2 H2) (hd : ∀ σ H, Pv xs.length σ H → D.nx σ H) :
    ∃ W : Nat → Nat → St → Hp → Prop, (∃ m, W 0 m σ H) ∧ ∀ i m σ H, W i m σ H →
      ((Itz K a b).stop i H ∧ D.nx σ H) ∨ ((Itz K a b).go i H ∧ ∃ N : St → Hp → Prop, (∀ σ' H', N σ' H' → ∃ m', m' < m ∧ W (i + 1) m' σ' H') ∧ ∀ x H', (Itz K a b).yld i H x H' → g x σ H' fun σ2 H2 => tb { D with nx := N, ct := N, bk := D.nx } σ2 H2) := by
  refine ⟨fun i m σ H => m = xs.length - i ∧ i ≤ xs.length ∧ Pv i σ H, ⟨xs.length, by simp, Nat.zero_le _, h0⟩, ?_⟩
  rintro i m σ H ⟨rfl, hi, p⟩
  obtain ⟨q1, q2⟩ := hl i σ H hi p
  by_cases hlt : i < xs.length
  · have hlt2 : i < ys.length := by omega
    refine .inr ⟨⟨xs, ys, xs[i], ys[i], q1, q2, by simp [hlt], by simp [hlt2]⟩, Pv (i + 1), fun σ' H' p' => ⟨xs.length - (i + 1), by omega, rfl, hlt, p'⟩, fun v H' y => ?_⟩
    obtain ⟨T, x, y, rfl, hT, rfl, hx, hy⟩ := y
    exact hs i x y T σ H (hx xs q1) (hy ys q2) p hT
  · have e : i = xs.length := by omega
    subst e
    exact .inl ⟨⟨xs, ys, q1, q2, .inl (Nat.le_refl _)⟩, hd σ H p⟩
/-! ### wide numbers -/
section
variable {X : Cx}
def CDivW (_ j : Int) : Prop := 0 < j ∧ j.natAbs.log2 < 9000
def CShlW (i j : Int) : Prop := 0 ≤ j ∧ (Builtin.Int.intBits i : Int) + j ≤ 2 ^ 27
theorem mt_bitlen : MtR X "int.bit_length" (fun x xs H Q => ∃ i, x = .int i ∧ xs = [] ∧ Q (.int (Builtin.Int.intBits i)) H) := by
  intro pins s σ H x xs v us Q I rx rs h
  obtain ⟨i, rfl, rfl, h⟩ := h
  obtain ⟨t, rfl⟩ := rx
  cases rs
  exact call_int_bit_length ⟨.int (Builtin.Int.intBits i), H, I.tok _, ⟨_, rfl⟩, h⟩
end
/-! ### lists that are only read: tracked or handed in -/
section
variable {X : Cx} {pins : List (Addr × Obj)} {σ : St} {H : Hp} {s : Shared} {l : Addr} {xs : List V}
theorem Inv.lstR (I : Inv X pins σ H s) (h : Rd H l (.lst xs)) : xs.length ≤ sizeLine ∧ ∃ (its : List Value) (n : Nat), Vals xs its ∧ xs.length = its.length ∧ s.heap.get? l = some { cls := .type "list", data := .seq its.toArray n } := by
  obtain ⟨z, its, n, r, e⟩ := h.ok I.hok
  exact ⟨z, its, n, r, r.length, e⟩
def rExtendR : V → List V → Hp → VK → Prop := fun x vs H Q => ∃ l b xs zs, x = .ref l ∧ vs = [.ref b] ∧ H l = some (.lst xs) ∧ Rd H b (.lst zs) ∧ xs.length + zs.length ≤ sizeLine ∧ Q .non (upd H l (.lst (xs ++ zs)))
theorem mt_extendR : MtM X "list.extend" rExtendR := by
  intro pins s σ H x vs v us Q I rx rv h
  obtain ⟨l, b, xs, zs, rfl, rfl, hH, hB, hz, q⟩ := h
  cases rx
  obtain ⟨u, rfl, ru⟩ := rv.one
  cases ru
  obtain ⟨z, its, n, r, hl, e⟩ := I.lstM hH
  obtain ⟨z2, its2, n2, r2, hl2, e2⟩ := I.lstR hB
  have hsz : its.toArray.size + its2.toArray.size ≤ sizeLine := by rw [List.size_toArray, List.size_toArray]; omega
  have hlong : ¬ (!its.toArray.isEmpty && Builtin.List.listTooLong (its.toArray.size + its2.toArray.size)) = true := by
    rw [notLongL hsz, Bool.and_false]
    exact Bool.false_ne_true
  refine call_meets F.slot_list_extend ⟨_, e, rfl⟩ F.entry_list_extend (F.args_list_extend_2 _ _)
    (AutoSeq1.list_extend_list_list_0 l its.toArray n b its2.toArray n2 hlong (by rw [List.size_toArray]; omega) (by omega)) ⟨e, e2, ?_⟩
  refine ⟨.non, _, I.lset (its' := its ++ its2) hH e (by simp) (r.append r2) ?_, rfl, q⟩
  rw [List.length_append]
  omega
def rCatR : R2 := fun x y H Q => ∃ l b xs zs, x = .ref l ∧ y = .ref b ∧ Rd H l (.lst xs) ∧ Rd H b (.lst zs) ∧ xs.length + zs.length ≤ sizeLine ∧ ∀ p, H p = none → Q (.ref p) (upd H p (.lst (xs ++ zs)))
theorem op_catR : OpR X (binaryOp .Add) rCatR := by
  intro pins s σ H x y v u Q I rx ry h
  obtain ⟨l, b, xs, zs, rfl, rfl, hH, hB, hz, q⟩ := h
  cases rx
  cases ry
  obtain ⟨z, its, n, r, hl, e⟩ := I.lstR hH
  obtain ⟨z2, its2, n2, r2, hl2, e2⟩ := I.lstR hB
  refine PySem.P.add_list e e2 ?_ (by rw [List.size_toArray, List.size_toArray]; omega)
  have ea : its.toArray ++ its2.toArray = (its ++ its2).toArray := by simp
  rw [ea]
  exact ⟨.ref _, _, I.lnew (t' := s.toks) (r.append r2) (by rw [List.length_append]; omega), rfl, q _ I.fresh⟩
end
end L2
set_option Elab.async false
set_option linter.all false
set_option maxRecDepth 100000
/-! CAUGHT exceptions; a def within a def that is handed on and called. -/
namespace L2
open PySem PySem.Spec PyProof.Rows
/-! ### within an except suite -/
abbrev Cx.marked (X : Cx) (v : Value) (E : Value → Shared → Prop) : Cx := { X with A := X.A.mark (some v), calm := false, xe := E }
section
variable {X : Cx} {pins : List (Addr × Obj)} {σ : St} {H : Hp} {s : Shared} {v : Value} {E : Value → Shared → Prop}
theorem Cx.Ok.marked (ok : X.Ok) : (X.marked v E).Ok :=
  ⟨ok.mod, ok.kind, ok.glob, ok.blt, ok.above, ok.inj, ok.has, ok.cab, fun z => Bool.noConfusion z, ok.frames, ok.stk, ok.exf, ok.bs, ok.bsz, ok.noex, ok.exfs, ok.funs, ok.frf⟩
theorem Inv.marked (I : Inv X pins σ H s) : Inv (X.marked v E) pins σ H s := ⟨I.ok.marked, I.os, I.bare, I.base, I.loc, I.cell, I.free, I.freeC, I.pin, I.hok, I.len⟩
theorem Inv.unmarked (ok : X.Ok) (I : Inv (X.marked v E) pins σ H s) : Inv X pins σ H s := ⟨ok, I.os, I.bare, I.base, I.loc, I.cell, I.free, I.freeC, I.pin, I.hok, I.len⟩
theorem SP.unmarked {D : Ends} {f : Flow} {s' : Shared} (ok : X.Ok) (h : SP (X.marked v E) pins D f s') : SP X pins D f s' := by
  cases f with
  | next => obtain ⟨σ', H', I, q⟩ := h; exact ⟨σ', H', I.unmarked ok, q⟩
  | brk => obtain ⟨σ', H', I, q⟩ := h; exact ⟨σ', H', I.unmarked ok, q⟩
  | cont => obtain ⟨σ', H', I, q⟩ := h; exact ⟨σ', H', I.unmarked ok, q⟩
  | ret u => obtain ⟨v', σ', H', I, r, q⟩ := h; exact ⟨v', σ', H', I.unmarked ok, r, q⟩
end
structure Caught (X : Cx) (pins : List (Addr × Obj)) (σ : St) (H : Hp) (e : Addr) (cls : Value) (s : Shared) : Prop where
  ex : ∃ (B : Heap) (a0 : Value), Heap.FlyingW B X.stack e cls a0 s.heap ∧ ∀ h'', B.StaysIn h'' → s.heap.UpToSlots h'' → Inv X pins σ H { s with heap := h'' }
section
variable {X : Cx} {pins : List (Addr × Obj)} {σ : St} {H H' : Hp} {s s' : Shared} {e : Addr} {cls : Value}
theorem Caught.inv (c : Caught X pins σ H e cls s) : Inv X pins σ H s := by
  obtain ⟨B, a0, fly, back⟩ := c.ex
  exact back s.heap fly.1 (Heap.UpToSlots.refl _)
theorem Inv.cellfs (I : Inv X pins σ H s) (hfn : ∀ x, X.fn x = true) {x : Str} {c : Addr} (ec : X.env.cells.lookup x = some c) : c ∉ X.fs := fun z => by
  obtain ⟨_, o0, g0, _⟩ := I.ok.funs.mem z
  exact absurd (Nat.lt_of_lt_of_le (Heap.lt_size g0) (I.ok.cab x c (hfn x) ec)) (Nat.lt_irrefl _)
theorem caught_of (I : Inv X pins σ H s) (d : X.Def) (hfn : ∀ x, X.fn x = true) (F : Flown X.prog X.w X.stack H s H' e cls s') : Caught X pins σ H' e cls s' := by
  obtain ⟨B, a0, fly, trk, old⟩ := F.fly
  refine ⟨B, a0, fly, fun h3 k1 up => ?_⟩
  have nS : ∀ b, b ≠ X.env.locals → b ∉ X.fs → b ∉ frs X.stack := fun b h1 h2 z => (d.mem.mp z).elim h1 h2
  have keepB : ∀ b o, s.heap.get? b = some o → H b = none → b ∉ frs X.stack → h3.get? b = some o := fun b o g n hb => by
    obtain ⟨ob, g2⟩ := old b o g hb
    have g3 := fly.1 b ob g2
    rw [F.un.keep b o g n hb (by simp)] at g3
    cases g3
    exact k1 b o g2
  have u0 : Un X.fs [] X.H_0 H' X.s_0.heap s'.heap := un_comp I d (fp := []) F.un fun b hb => nomatch hb
  have old0 : ∀ b o, X.s_0.heap.get? b = some o → b ∉ X.fs → ∃ ob, B.get? b = some ob := fun b o g hb => by
    obtain ⟨o1, e1⟩ := I.base.there b o g (by rw [d.ex]; simp)
    exact old b o1 e1 (nS b (Nat.ne_of_lt (Nat.lt_of_lt_of_le (Heap.lt_size g) I.ok.above)) hb)
  have u1 := un_on (h3 := h3) u0 old0 fly.1 k1 (fun b o _ g hd => up b o g hd) I.frOk
  have nfs : ∀ x c, X.env.cells.lookup x = some c → c ∉ frs X.stack := fun x c ec z => (d.mem.mp z).elim (I.cne x c ec) (I.cellfs hfn ec)
  have cellK : ∀ x c, X.env.cells.lookup x = some c → ∀ v, s.heap.IsCell c v → h3.IsCell c v := fun x c ec v ⟨o, g, gd⟩ => ⟨o, keepB c o g (I.freeC x c ec) (nfs x c ec), gd⟩
  obtain ⟨m, hn, hl⟩ := I.loc
  have uX : Un X.fs X.ex X.H_0 H' X.s_0.heap h3 := by rw [d.ex]; exact u1
  refine ⟨I.ok, F.os.trans I.os, F.bare, uX, ⟨m, ?_, fun i x v e1 e2 e3 => ?_⟩, fun x c ec => ?_, ?_, fun x c ec => ?_, fun p hp => ?_, hok_on F.hok trk fly.1 k1, I.len⟩
  · obtain ⟨oL, es, ep, gL, dL, rL⟩ := hn
    obtain ⟨sl, g1⟩ := F.un.any gL I.free (by simp)
    obtain ⟨sl2, g2⟩ := up _ _ g1 fun vs z => by
      have z2 : oL.data = .fields vs := z
      rw [dL] at z2
      cases z2
    exact ⟨_, es, ep, g2, dL, rL⟩
  · obtain ⟨u, r, l⟩ := hl i x v e1 e2 e3
    refine ⟨u, r, ?_⟩
    rcases l with l | ⟨k, c, ec, z⟩
    · exact .inl l
    · exact .inr ⟨k, c, ec, cellK x c ec _ z⟩
  · obtain ⟨v, z⟩ := I.cell x c ec
    exact ⟨v, cellK x c ec v z⟩
  · obtain ⟨oL, _, _, gL, _⟩ := hn
    exact F.un.free _ _ gL I.free (by simp)
  · obtain ⟨v, o, g, _⟩ := I.cell x c ec
    exact F.un.free c o g (I.freeC x c ec) (by simp)
  · obtain ⟨g, n, ne, nf, dd⟩ := I.pin p hp
    exact ⟨keepB _ _ g n (nS _ ne nf), F.un.free _ _ g n (by simp), ne, nf, dd⟩
end
/-! ### except clauses -/
def PH (X : Cx) (hs : List ExceptHandler) (t : Value → TS) : Prop :=
  ∀ (pins : List (Addr × Obj)) (s : Shared) (σ : St) (H : Hp) (D : Ends) (e : Addr) (cls : Value), Caught X pins σ H e cls s → t cls D σ H → wpAny (model X.prog X.w) X.A (handleBy (.ref e) X.env hs) (SP X pins D) X.xe s
def tCatch (K : PySem.W.Frag) (C : Addr) (t : TS) (r : Value → TS) : Value → TS := fun cls D σ H => ∃ b, PySem.W.exmOne K cls (.ref C) = some b ∧ if b = true then t D σ H else r cls D σ H
def tNoCatch : Value → TS := fun _ _ _ _ => False
section
variable {X : Cx} {x : Str} {C : Addr} {np hpos : Pos} {b0 : Stmt} {suite : List Stmt} {rest : List ExceptHandler} {t : TS} {r : Value → TS}
theorem ph_nil : PH X [] tNoCatch := fun _ _ _ _ _ _ _ _ h => h.elim
theorem ph_cons (hg : Gl X x) (hm : X.mg x = some (.ref C)) (hb : ∀ (v : Value) (E : Value → Shared → Prop), PSs (X.marked v E) (b0 :: suite) t) (hr : PH X rest r) (hd : (x == ("__debug__" : Str)) = false := by decide) :
    PH X (.ExceptHandler (some (.Name x np)) none (b0 :: suite) hpos :: rest) (tCatch X.K C t r) := by
  intro pins s σ H D e cls c h
  obtain ⟨b, hx, h⟩ := h
  obtain ⟨B, a0, fly, back⟩ := c.ex
  have I := c.inv
  obtain ⟨ob, ge, gc⟩ := fly.there
  have LT : PySem.W.Looks (model X.prog X.w) s.heap (typeOf (.ref e)) cls := by
    rw [← gc]
    exact (PySem.W.Looks.ld (part := none) ge).andThen .now
  refine wpAny_handleBy_cons (codeAny_handlers_test ?_) (by intro q; cases q)
  refine ld_glob (X := X.marked (.ref e) _) (I.marked (E := fun _ _ => False)) hg hm ?_ hd
  refine (PySem.W.exm_one (M := model X.prog X.w) I.kIn LT hx).here ?_
  cases b with
  | true =>
    refine codeAny_handlers_suite ?_
    refine lands_againW fly fun h' fly' up => ?_
    have I' : Inv X pins σ H { s with heap := h' } := back h' fly'.1 up
    refine wpAny_mono (hb (.ref e) _ pins _ σ H D I'.marked h) (fun f s2 q => ?_) fun _ _ q => q
    exact q.unmarked I.ok
  | false => exact hr pins s σ H D e cls c h
end
/-! ### try: name = call -/
def PX (X : Cx) (e : Expr) (t : St → Hp → VK → XK → Prop) : Prop :=
  ∀ (pins : List (Addr × Obj)) (s : Shared) (σ : St) (H : Hp) (Q : VK) (E : XK), Inv X pins σ H s → t σ H Q E →
    wpAny (model X.prog X.w) X.A (eval e X.env) (EP X pins σ Q) (fun e s' => ∃ s1, Inv X pins σ H s1 ∧ CXn X.prog X.w X.stack H s1 E e s') s
def tTry (i : Nat) (t : St → Hp → VK → XK → Prop) (r : Value → TS) : TS := fun D σ H => t σ H (fun v H' => D.nx (σ.set i (some v)) H') fun cls _ H' => r cls D σ H'
section
variable {X : Cx} {y : Str} {i : Nat} {e : Expr} {py apos pos : Pos} {h0 : ExceptHandler} {hs : List ExceptHandler} {t : St → Hp → VK → XK → Prop} {r : Value → TS}
theorem ps_try (d : X.Def) (hfn : ∀ x, X.fn x = true) (hN : X.N.Nodup) (hi : X.N[i]? = some y) (hy : Loc X.env.scope y) (hc : PX X e t) (hh : PH X (h0 :: hs) r)
    (hsw : swapsWith e (some (.Name y py)) apos.line X.env = pure false := by rfl) : PS X (.Try [.Assign [.Name y py] e apos] (h0 :: hs) [] [] pos) (tTry i t r) := by
  intro pins s σ H D I h
  have hfr : X.A.frames = some (X.env :: X.outer) := by rw [← d.st]; exact I.ok.frames
  refine wpAny_Try_except (wpAny_execs_cons ?_)
  have k : wpAny (model X.prog X.w) X.A (exec (.Assign [.Name y py] e apos) X.env) (fun f s1 => f = .next ∧ ∃ σ' H', Inv X pins σ' H' s1 ∧ D.nx σ' H') (fun e s' => ∃ s1, Inv X pins σ H s1 ∧ CXn X.prog X.w X.stack H s1 (fun cls _ H' => r cls D σ H') e s') s := by
    refine wpAny_Assign_Name (thn (hc pins s σ H _ _ I h) fun v s1 ⟨z, H1, I1, r1, q1⟩ => ?_) hsw
    exact store_ok I1 hN hi hy r1 (fun s2 I2 => ⟨rfl, _, H1, I2, q1⟩) (.inl (hfn y))
  refine wpAny_mono k (fun f s1 q => ?_) fun ex s' q => ?_
  · obtain ⟨rfl, σ', H', I', q⟩ := q
    exact wpAny_execs_nil (wpAny_execs_nil ⟨σ', H', I', q⟩)
  · obtain ⟨s1, I1, ea, cls, H', rfl, F, q⟩ := q
    have c := caught_of I1 d hfn F
    obtain ⟨B, a0, fly, back⟩ := c.ex
    have st : X.stack = X.env :: X.outer := d.st
    have fly2 : Heap.FlyingW B (X.env :: X.outer) ea cls a0 s'.heap := by rw [← st]; exact fly
    refine wpAny_looks_onW hfr d.fr fly2 fun h4 held up4 => ?_
    refine wpAny_landsW held fun h5 fly5 up5 => ?_
    refine hh pins _ σ H' D ea cls ⟨B, a0, ?_, fun h'' k1 up => ?_⟩ q
    · rw [st]
      exact fly5
    · exact back h'' k1 ((up4.trans up5).trans up)
end
theorem px_call {X : Cx} {k : Nat} {f : Addr} {fd : FuncData} {sp : Sp} {i : Nat} {x : Str} {p pos : Pos} (F : FnOk X.prog X.w X.K X.mg X.base (CXn X.prog X.w) k f fd [] sp) (hf : PySem.W.FnAt f X.base) (hb : ∀ s, BindsTo s fd ⟨[], []⟩ []) (hr : Room k X.A)
    (hN : X.N[i]? = some x) (hv : Vis X.env.scope x) (hd : (x == ("__debug__" : Str)) = false := by decide) (hcd : (x == ("__classdict__" : Str)) = false := by decide) :
    PX X (.Call (.Name x p) [] [] pos) (fun σ H Q E => σ[i]? = some (some (.ref f)) ∧ sp [] H Q E) := by
  intro pins s σ H Q E I h
  obtain ⟨h1, h2⟩ := h
  refine wpAny_Call_Name_kw (thn (pe_var (X := X.wish fun e s' => ∃ s1, Inv X pins σ H s1 ∧ CXn X.prog X.w X.stack H s1 E e s') hN hv hd hcd pins s σ H (fun v H' => v = .ref f ∧ H' = H) (I.wish _) ⟨_, h1, rfl, rfl⟩) fun u s1 hu => ?_)
  obtain ⟨v, H1, I1, ru, rfl, rfl⟩ := hu
  obtain rfl : u = Value.ref f := ru
  have I1 := I1.unwish
  obtain ⟨oc, od, fd', sl, g⟩ := hf
  refine PySem.W.callWith_F0 ⟨oc, od, fd', sl, I1.bk _ _ g⟩ (wpAny_call (codeAny_mono (F.run X.A X.stack s1 H1 ⟨[], []⟩ [] [] Q E hr I1.env0 (hb s1) .nil h2) fun r s' hq => ?_))
  cases r with
  | error e => exact ⟨s1, I1, hq⟩
  | ok fl =>
    cases fl with
    | ret u => exact I1.after hq
    | next => exact False.elim hq
    | brk => exact False.elim hq
    | cont => exact False.elim hq
/-! ### a def within a def -/
def cxEnv (CX : CXT) (P : Program) (w : World) (K : PySem.W.Frag) (mg : Str → Option Value) (base : Heap) (N : List Str) (env : Env) (A : Around) (outer : List Env) (s : Shared) (H : Hp) (E : XK) : Cx where
  prog := P
  w := w
  K := K
  mg := mg
  base := base
  A := A.deeper env
  N := N
  s_0 := s
  H_0 := H
  env := env
  outer := outer
  stack := env :: outer
  ex := []
  calm := true
  fn := fun _ => false
  pn := []
  xe := fun e s' => wpAny (model P w) (A.deeper env) (leaving env e) (fun _ s'' => CX outer H s E e s'') (fun e' s'' => CX outer H s E e' s'') s'
structure CloAt (h : Heap) (f : Addr) (fd : FuncData) (qual : Str) (params : Arguments) (body : List Stmt) (scope : Scope) (clos : List (Str × Addr)) (N : List Str) (vs : List V) : Prop where
  obj : ∃ name doc pm c' ctv oc od sl, fd = PySem.W.fnX name qual params body scope clos .none .none doc pm none (.ref c') ctv ∧ h.get? f = some ⟨oc, od, .func fd, sl⟩ ∧ h.CodeRec (.ref c') qual
  cell : ∀ x c, clos.lookup x = some c → ∃ v, h.IsCell c v
  inj : ∀ x y c, clos.lookup x = some c → clos.lookup y = some c → x = y
  has : ∀ x, scope.names.lookup x = some .free → ∃ c, clos.lookup x = some c
  len : vs.length = N.length
  val : ∀ (i : Nat) x v, N[i]? = some x → vs[i]? = some v → ∃ c u, clos.lookup x = some c ∧ h.IsCell c (some u) ∧ RelV v u
section
variable {P : Program} {w : World} {K : PySem.W.Frag} {mg : Str → Option Value} {base : Heap} {k : Nat} {f : Addr} {fd : FuncData} {qual : Str} {params : Arguments} {body : List Stmt} {scope : Scope} {clos : List (Str × Addr)} {N : List Str} {vs : List V} {sp : Sp}
theorem clo_of (c : CloAt base f fd qual params body scope clos N vs) (hk : scope.kind = .function) (hco : scope.isCoroutine = false) (hgen : scope.isGenerator = false) (hcell : ∀ x ∈ scope.names, x.2 ≠ .cell) (hfree : ∀ x ∈ N, scope.names.lookup x = some .free)
    (len : ∀ us H Q E, sp us H Q E → us.length = 0)
    (hbody : ∀ (cdv : Value) (A : Around) (outer : List Env) (s : Shared) (H : Hp) (Q : VK) (E : XK), Room k (A.deeper (PySem.W.envX qual scope s.heap.objs.size f cdv clos)) → sp [] H Q E →
      ∃ t, PSs (cxEnv (CXn P w) P w K mg base N (PySem.W.envX qual scope s.heap.objs.size f cdv clos) A outer s H E) body t ∧ t { nx := fun _ H' => Q .non H', rt := Q } (vs.map some) H) : FnOk P w K mg base (CXn P w) (k + 1) f fd [] sp := by
  obtain ⟨name, doc, pm, c', ctv, oc, od, sl, rfl, gf, gc⟩ := c.obj
  refine ⟨fun us H Q E h => len us H Q E h, fun A outer s H args us ws Q E hr e0 hb r hsp => ?_⟩
  have hw : ws = [] := List.length_eq_zero_iff.mp (len _ _ _ _ hsp)
  subst hw
  have hu : us = [] := by cases r; rfl
  subst hu
  have kb : ∀ b o, base.get? b = some o → s.heap.get? b = some o := fun b o q => (e0.bs b o q).1
  have lim : s.heap.NoLimit := e0.mod.nolimit.keeps kb
  have hcd : s.heap.CodeRec (.ref c') qual := by
    obtain ⟨c1, o1, v1, t1, g1, g2, g3⟩ := gc
    exact ⟨c1, o1, v1, t1, g1, kb _ _ g2, g3⟩
  refine codeAny_call_function hr.depth (kb _ _ gf) rfl hco hgen rfl hcd (hb _ _ _ _ ?_)
  refine wpAny_newFunctionEnv hcell (fun x hx => nomatch hx) (fun h' hn hs => ?_) hk
  have keep : ∀ b o, s.heap.get? b = some o → h'.get? b = some o := fun b o q => (hs.2 b (Nat.ne_of_lt (Heap.lt_size q))).trans (Heap.get?_push_of_some _ q)
  refine ⟨lim.keeps keep, codeAny_func ?_⟩
  obtain ⟨t, ht, hq⟩ := hbody (.ref c') A outer s H Q E (hr.deeper _) hsp
  have noA : ∀ b : Addr, b ∉ ([] : List Addr) := fun b z => nomatch z
  have cb : ∀ x c1, clos.lookup x = some c1 → ∃ v, base.IsCell c1 v := c.cell
  have ck : ∀ x c1 v, clos.lookup x = some c1 → base.IsCell c1 v → h'.IsCell c1 v ∧ H c1 = none := fun x c1 v _ ⟨o, g, gd⟩ => ⟨⟨o, keep _ _ (kb _ _ g), gd⟩, (e0.bs _ _ g).2⟩
  have I : Inv (cxEnv (CXn P w) P w K mg base N (PySem.W.envX qual scope s.heap.objs.size f (.ref c') clos) A outer s H E) [] (vs.map some) H { s with heap := h' } := by
    refine ⟨⟨e0.mod, hk, rfl, rfl, Nat.le_refl _, c.inj, fun x hx => ?_, fun x c1 z => Bool.noConfusion z, fun _ => hr.hd, Around.frames_deeper e0.frames, .inr ⟨rfl, rfl⟩, fun b z => absurd z (noA b), e0.bs, e0.bsz, fun b _ _ => noA b, fun b z => absurd z (noA b), e0.funs, e0.frf⟩,
      rfl, e0.bare, Un.kept keep, ⟨_, hn, fun i x v h1 h2 h3 => ?_⟩, fun x c1 z => ?_, e0.hok.fresh (Nat.le_refl _), fun x c1 z => ?_, fun p hp => absurd (show p ∈ ([] : List (Addr × Obj)) from hp) (by simp), e0.hok.kept keep, ?_⟩
    · have hx : scope.names.lookup x = some .cell ∨ scope.names.lookup x = some .free := hx
      rcases hx with z | z
      · exact absurd rfl (hcell _ (PySem.mem_of_lookup z))
      · exact c.has x z
    · have h2' : vs[i]? = some v := by
        rw [List.getElem?_map] at h2
        cases q : vs[i]? with
        | none => rw [q] at h2; cases h2
        | some a => rw [q] at h2; cases h2; rfl
      obtain ⟨c1, u, g1, g2, g3⟩ := c.val i x v h1 h2'
      exact ⟨u, g3, .inr ⟨.inr (hfree x (List.mem_of_getElem? h1)), c1, g1, (ck x c1 _ g1 g2).1⟩⟩
    · obtain ⟨v, g⟩ := cb x c1 z
      exact ⟨v, (ck x c1 v z g).1⟩
    · obtain ⟨v, g⟩ := cb x c1 z
      exact (ck x c1 v z g).2
    · show (vs.map some).length = N.length
      rw [List.length_map, c.len]
  have I2 := I.tok (s.toks + ([] : List (Str × Value)).length)
  refine wpAny_mono (ht [] _ (vs.map some) H _ I2 hq) (fun fl s' hs' => ?_) fun e s' hs' => hs'
  have fin : ∀ {σ' : St} {H' : Hp} {v : V} {u : Value}, Inv (cxEnv (CXn P w) P w K mg base N (PySem.W.envX qual scope s.heap.objs.size f (.ref c') clos) A outer s H E) [] σ' H' s' → RelV v u → Q v H' → CE outer P w H s Q u s' :=
    fun {σ' H' v u} J rv q => ⟨v, H', J.os, J.bare, J.base, J.hok, rv, q⟩
  cases fl with
  | ret u =>
    obtain ⟨v, σ', H', J, rv, q⟩ := hs'
    exact fin J rv q
  | next =>
    obtain ⟨σ', H', J, q⟩ := hs'
    exact fin (v := V.non) (u := Value.none) J rfl q
  | brk =>
    obtain ⟨_, _, _, q⟩ := hs'
    exact False.elim q
  | cont =>
    obtain ⟨_, _, _, q⟩ := hs'
    exact False.elim q
theorem def_env {CX : CXT} {env : Env} {A : Around} {outer : List Env} {s : Shared} {H : Hp} {E : XK} (hf : env.frame = some env.locals) : (cxEnv CX P w K mg base N env A outer s H E).Def := ⟨rfl, rfl, hf⟩
theorem passE {env : Env} {A : Around} {outer : List Env} {s : Shared} {H : Hp} {E : XK} (hf : env.frame = some env.locals) : Passes (CXn P w) (cxEnv (CXn P w) P w K mg base N env A outer s H E) E := fun pins σ H1 s1 e s' I h => by
  obtain ⟨ea, cls, H', rfl, F, q⟩ := h
  exact leave_thrown I.ok (def_env hf) (thrown_call I (def_env hf) F) fun s'' F' => ⟨ea, cls, H', rfl, F', q⟩
end
end L2
set_option Elab.async false
set_option linter.all false
set_option maxRecDepth 100000
/-! def r(): ..; return t(a, r): the inner def is made, handed on with another value, and called there. -/
namespace L2
open PySem PySem.Spec PyProof.Rows
theorem hid_none {h : Heap} {H : Hp} {l : List Addr} {P : Program} {w : World} (ok : HOk P w H h) {b : Addr} {o : Obj} (g : (PySem.W.hideAll h (trk h H ++ l)).get? b = some o) : H b = none := by
  cases q : H b with
  | none => rfl
  | some u =>
    have m : b ∈ trk h H ++ l := List.mem_append_left _ (List.mem_filter.mpr ⟨List.mem_range.mpr (ok.lt q), by rw [q]; rfl⟩)
    rw [PySem.W.hideAll_none _ m] at g
    cases g
theorem hid_get {h : Heap} {H : Hp} {l : List Addr} {b : Addr} {o : Obj} (g : h.get? b = some o) (n : H b = none) (hb : b ∉ l) : (PySem.W.hideAll h (trk h H ++ l)).get? b = some o :=
  PySem.W.hideAll_get _ g fun z => (List.mem_append.mp z).elim (fun z => by
    have q := (List.mem_filter.mp z).2
    rw [n] at q
    cases q) hb
section
variable {X : Cx} {E : XK} {r tn an : Str} {ir ia kR kT : Nat} {params : Arguments} {body : List Stmt} {scope : Scope} {dpos p1 p2 p3 cpos rpos : Pos} {c P ft : Addr} {fdT : FuncData} {psT Nc : List Str} {spR : List V → Sp} {spT : Addr → Sp → Sp}
def tClo (X : Cx) (E : XK) (P : Addr) (ia : Nat) (dpos : Pos) (Nc : List Str) (spR : List V → Sp) (spT : Addr → Sp → Sp) : TS := fun D σ H => ∃ (ps : Array Value) (vs : List V) (va : V), H P = some (.tbl ps) ∧ TriplesOk ps.toList ∧ codeAmong dpos ps.toList = none ∧ σ[ia]? = some (some va) ∧ vs.length = Nc.length ∧
  (∀ (i : Nat) x, Nc[i]? = some x → ∃ (j : Nat) (v : V), X.N[j]? = some x ∧ σ[j]? = some (some v) ∧ vs[i]? = some v) ∧ ∀ (f : Addr) (more : Array Value), H f = none → spT f (spR vs) [va, .ref f] (upd H P (.tbl (ps ++ more))) D.rt E
theorem pss_clo (d : X.Def) (hfn : ∀ x, X.fn x = true) (hx : Passes (CXn X.prog X.w) X E) (hN : X.N.Nodup) (hir : X.N[ir]? = some r) (hrl : X.env.scope.names.lookup r = some .local) (hia : X.N[ia]? = some an) (hav : Vis X.env.scope an) (hne : ia ≠ ir)
    (hd0 : params.defaults = []) (hk0 : params.kw_defaults = []) (hann : annTrees params none X.env = []) (hfree : ∀ y ∈ scope.names, y.2 = .free → X.env.scope.names.lookup y.1 = some .cell)
    (hcode : X.env.code = .ref c) (hC : PySem.W.CodeHd X.base c P) (hbm : X.base.BuiltinsAt X.mg P) (hNc : ∀ x ∈ Nc, (x, NameKind.free) ∈ scope.names)
    (hbind : ∀ (clos : List (Str × Addr)) (doc pm : Value) (c' : Addr) (ctv : Value), bindArgs (PySem.W.fnX r (qualnameIn X.env r r) params body scope clos .none .none doc pm none (.ref c') ctv) ⟨[], []⟩ = pure [])
    (hclo : ∀ (base' : Heap) (f : Addr) (fd : FuncData) (clos : List (Str × Addr)) (vs : List V), X.K.In base' → base'.Ns mainGlobals X.mg → CloAt base' f fd (qualnameIn X.env r r) params body scope clos Nc vs → FnOk X.prog X.w X.K X.mg base' (CXn X.prog X.w) kR f fd [] (spR vs))
    (hT : ∀ (base' : Heap) (f : Addr) (fd : FuncData) (sp : Sp), X.K.In base' → base'.Ns mainGlobals X.mg → PySem.W.FnAt f base' → (∀ s, BindsTo s fd ⟨[], []⟩ []) → FnOk X.prog X.w X.K X.mg base' (CXn X.prog X.w) kR f fd [] sp → FnOk X.prog X.w X.K X.mg base' (CXn X.prog X.w) kT ft fdT psT (spT f sp))
    (hbT : Binds X.K fdT psT []) (hrT : Room kT X.A) (hgT : Gl X tn) (hmT : X.mg tn = some (.ref ft)) (hkT : PySem.W.keepIn X.K (.ref ft) = true)
    (e1 : (tn == ("__debug__" : Str)) = false := by decide) (e2 : (an == ("__debug__" : Str)) = false := by decide) (e3 : (an == ("__classdict__" : Str)) = false := by decide) (e4 : (r == ("__debug__" : Str)) = false := by decide) (e5 : (r == ("__classdict__" : Str)) = false := by decide) :
    PSs X [.FunctionDef r params body [] none [] scope none r dpos, .Return (some (.Call (.Name tn p1) [.Name an p2, .Name r p3] [] cpos)) rpos] (tClo X E P ia dpos Nc spR spT) := by
  intro pins s σ H D I h
  obtain ⟨ps, vs, va, hP, ht, hnf, hσ, hlen, hcap, k⟩ := h
  have gP : s.heap.get? P = some (PySem.W.tabObj ps) := I.hok P _ hP
  have hcl : closureFor scope X.env = pure (cloFrom X.env.cells scope.names []) := closure_ok fun y hy e => I.ok.has _ (.inl (hfree y hy e))
  have glob : s.heap.Ns mainGlobals X.mg := I.mod.glob.keeps I.bk
  have hgP : mainGlobals ≠ P := fun q => by
    obtain ⟨o, es, ep, g, gd, _⟩ := glob
    rw [q, gP] at g
    cases g
    cases gd
  refine wpAny_execs_cons (PySem.W.nestDef_K hd0 hk0 hann (PySem.W.makeFunction_K (mg := X.mg) hcl I.ok.glob glob hcode (hC.keeps I.bk) gP ht hnf hgP (hbm.keeps I.bk) fun c' ctv doc h' tk hxt hge hlt hrec htb => ?_))
  generalize hclos : cloFrom X.env.cells scope.names [] = clos at hcl
  generalize hmore : (#[rawInt dpos.line, rawInt dpos.col, Value.ref c'] : Array Value) = more at htb
  generalize hfo : PySem.W.fnMade r (qualnameIn X.env r r) params body scope clos doc ((X.mg "__name__").getD .none) c' ctv = fo
  have keepP : ∀ b o, b ≠ P → s.heap.get? b = some o → (h'.push fo).get? b = some o := fun b o hb g => Heap.get?_push_of_some _ (hxt b o hb g)
  have gP2 : (h'.push fo).get? P = some (PySem.W.tabObj (ps ++ more)) := Heap.get?_push_of_some _ htb
  have nP : ∀ b, H b = none → b ≠ P := fun b n z => by
    rw [z, hP] at n
    cases n
  have u : Un X.fs [] H (upd H P (.tbl (ps ++ more))) s.heap (h'.push fo) := by
    refine ⟨fun b o g n _ _ => keepP b o (nP b n) g, fun b o g n _ _ => ⟨o.slots, keepP b o (nP b n) g⟩, fun b o g n _ => ?_, fun b o g _ => ?_, fun b xs q => ?_, fun b o v q => ?_, fun b ps' q => ?_⟩
    · rw [upd_ne (nP b n)]
      exact n
    · by_cases z : b = P
      · rw [z]
        exact ⟨_, gP2⟩
      · exact ⟨o, keepP b o z g⟩
    · rw [upd_ne (fun z => by rw [z, hP] at q; cases q)]
      exact q
    · rw [upd_ne (fun z => by rw [z, hP] at q; cases q)]
      exact q
    · by_cases z : b = P
      · subst z
        rw [hP] at q
        cases q
        exact ⟨more, upd_same⟩
      · exact ⟨#[], by rw [upd_ne z, q]; simp⟩
  have hok2 : HOk X.prog X.w (upd H P (.tbl (ps ++ more))) (h'.push fo) := fun b o q => by
    by_cases z : b = P
    · subst z
      rw [upd_same] at q
      cases q
      exact gP2
    · rw [upd_ne z] at q
      refine (I.hok b o q).stay (fun b' u' hb' g => keepP b' u' ?_ g) (fun b' q' => ?_) fun b' xs q' => ?_
      · rintro rfl
        rcases hb' with z2 | z2
        · exact z z2.symm
        · rw [hP] at z2
          cases z2
      · rw [upd_ne (fun z => by rw [z, hP] at q'; cases q')]
        exact q'
      · rw [upd_ne (fun z => by rw [z, hP] at q'; cases q')]
        exact q'
  have I2 : Inv X pins σ (upd H P (.tbl (ps ++ more))) { s with heap := h'.push fo, toks := tk } := I.un u hok2
  have lf : s.heap.objs.size ≤ h'.objs.size := Nat.le_of_lt (Nat.lt_of_le_of_lt hge hlt)
  have lP : P < s.heap.objs.size := Heap.lt_size gP
  have nf : H h'.objs.size = none := I.hok.fresh lf
  have nf2 : upd H P (.tbl (ps ++ more)) h'.objs.size = none := by
    rw [upd_ne (Nat.ne_of_gt (Nat.lt_of_lt_of_le lP lf))]
    exact nf
  have nc2 : upd H P (.tbl (ps ++ more)) c' = none := by
    rw [upd_ne (Nat.ne_of_gt (Nat.lt_of_lt_of_le lP hge))]
    exact I.hok.fresh hge
  obtain ⟨c2, oc, v1, t1, ec, goc, gd1, gv1⟩ := hrec
  cases ec
  refine store_ok2 I2 hN hir (.inl hrl) (show RelV (.ref h'.objs.size) (.ref h'.objs.size) from rfl) (fun s3 I3 hs3 => ?_) (.inr hrl)
  obtain ⟨a, sb, ha⟩ := hs3
  have la : a < s.heap.objs.size := by
    rcases ha with z | z
    · rw [z]
      exact I.lt
    · obtain ⟨v, o, g, _⟩ := I.cell r a z
      exact Heap.lt_size g
  have gf : s3.heap.get? h'.objs.size = some fo := by
    refine (sb.2 _ (Nat.ne_of_gt (Nat.lt_of_lt_of_le la lf))).trans (Heap.get?_push_size _ ?_)
    rw [← hfo]
    rfl
  have gc3 : s3.heap.get? c' = some oc := (sb.2 _ (Nat.ne_of_gt (Nat.lt_of_lt_of_le la hge))).trans (Heap.get?_push_of_some _ goc)
  have I3' : Inv X (pins ++ [(h'.objs.size, fo), (c', oc)]) (σ.set ir (some (.ref h'.objs.size))) (upd H P (.tbl (ps ++ more))) s3 := by
    refine I3.pins_of fun p hp => ?_
    rcases List.mem_append.mp hp with hp | hp
    · exact I3.pin p (List.mem_append_right _ hp)
    · have hp' : p = (h'.objs.size, fo) ∨ p = (c', oc) := by simpa using hp
      rcases hp' with rfl | rfl
      · exact ⟨gf, nf2, Nat.ne_of_gt (Nat.lt_of_lt_of_le I.lt lf), I.nofs lf, fun v z => by rw [← hfo] at z; cases z⟩
      · exact ⟨gc3, nc2, Nat.ne_of_gt (Nat.lt_of_lt_of_le I.lt hge), I.nofs hge, fun v z => by
          have z2 : oc.data = .cell v := z
          rw [gd1] at z2
          cases z2⟩
  have hirlt : ir < σ.length := by
    rw [I.len]
    exact (List.getElem?_eq_some_iff.mp hir).1
  have goal : wpAny (model X.prog X.w) X.A (exec (.Return (some (.Call (.Name tn p1) [.Name an p2, .Name r p3] [] cpos)) rpos) X.env) (SP X pins D) X.xe s3 := by
    refine wpAny_Return_some (wpAny_Call_Name_kw (ld_glob I3' hgT hmT ?_ e1))
    have pa : PA X [.Name an p2, .Name r p3] (tCons (tVar ia) (tCons (tVar ir) tNil)) := pa_cons (pe_var hia hav e2 e3) (pa_cons (pe_var hir (.inl hrl) e4 e5) pa_nil)
    refine PySem.W.callWith_K (h₀ := X.base) I3'.ok.mod.kin hkT (thn (pa cpos _ s3 _ _ (fun ws H4 => ws = [va, .ref h'.objs.size] ∧ H4 = upd H P (.tbl (ps ++ more))) I3' ⟨va, ?_, .ref h'.objs.size, ?_, rfl, rfl⟩) fun us s4 hu => ?_) rfl rfl
    · rw [List.getElem?_set_ne (Ne.symm hne)]
      exact hσ
    · exact List.getElem?_set_self hirlt
    obtain ⟨ws, H4, I4, rv, rfl, rfl⟩ := hu
    refine ⟨I4.kIn, ?_⟩
    -- what stands fast from here on
    have hin : ∀ env ∈ X.stack, ∀ b, env.frame = some b → b ∈ trk s4.heap (upd H P (.tbl (ps ++ more))) ++ frs X.stack := fun env he b hb => List.mem_append_right _ (List.mem_filterMap.mpr ⟨env, he, hb⟩)
    have hfun := PySem.W.funFrames_hide I4.stack hin
    have sub : ∀ b o, X.base.get? b = some o → (PySem.W.hideAll s4.heap (trk s4.heap (upd H P (.tbl (ps ++ more))) ++ frs X.stack)).get? b = some o := fun b o q => by
      refine hid_get (I4.bk b o q) (I4.bs b o q).2 fun z => ?_
      rcases d.mem.mp z with z | z
      · exact absurd (Nat.lt_of_lt_of_le (Heap.lt_size q) (Nat.le_trans I.ok.bsz I.ok.above)) (by rw [z]; exact Nat.lt_irrefl _)
      · exact I.ok.nofr q z
    have hM : Mod X.K X.mg (PySem.W.hideAll s4.heap (trk s4.heap (upd H P (.tbl (ps ++ more))) ++ frs X.stack)) := by
      obtain ⟨mb, b1, b2⟩ := I.mod.blt
      exact ⟨I.mod.kin.keeps sub, I.mod.glob.keeps sub, ⟨mb, b1.keeps sub, b2⟩, I.mod.nolimit.keeps sub⟩
    have e0 : Env0 X.prog X.w X.K X.mg (PySem.W.hideAll s4.heap (trk s4.heap (upd H P (.tbl (ps ++ more))) ++ frs X.stack)) X.A X.stack s4 (upd H P (.tbl (ps ++ more))) :=
      ⟨I4.ok.frames, hM, fun b o q => ⟨PySem.W.of_hideAll _ q, hid_none I4.hok q⟩, by rw [PySem.W.hideAll_size]; exact Nat.le_refl _, hfun, I4.stkFree, I4.hok, I4.bare⟩
    have pinf := I4.pin (h'.objs.size, fo) (List.mem_append_right _ (List.mem_append_right _ (by simp)))
    have pinc := I4.pin (c', oc) (List.mem_append_right _ (List.mem_append_right _ (by simp)))
    have nS : ∀ b, b ≠ X.env.locals → b ∉ X.fs → b ∉ frs X.stack := fun b h1 h2 z => (d.mem.mp z).elim h1 h2
    have clk : ∀ x c1, clos.lookup x = some c1 → X.env.cells.lookup x = some c1 := fun x c1 q => by
      rw [← hclos] at q
      rcases cloFrom_mem (PySem.mem_of_lookup q) with z | ⟨z1, z2⟩
      · exact nomatch z
      · obtain ⟨c3, q3⟩ := I.ok.has x (.inl (hfree _ z1 rfl))
        rw [z2, q3]
        rfl
    have cin : ∀ x c1 v, X.env.cells.lookup x = some c1 → s4.heap.IsCell c1 v → (PySem.W.hideAll s4.heap (trk s4.heap (upd H P (.tbl (ps ++ more))) ++ frs X.stack)).IsCell c1 v := fun x c1 v q ⟨o, g, gd⟩ =>
      ⟨o, hid_get g (I4.freeC x c1 q) (nS c1 (I4.cne x c1 q) (I4.cellfs hfn q)), gd⟩
    have hfo' : fo = ⟨.type "function", none, .func (PySem.W.fnX r (qualnameIn X.env r r) params body scope clos .none .none doc ((X.mg "__name__").getD .none) none (.ref c') ctv), #[]⟩ := hfo.symm
    have gfb : (PySem.W.hideAll s4.heap (trk s4.heap (upd H P (.tbl (ps ++ more))) ++ frs X.stack)).get? h'.objs.size = some fo := hid_get pinf.1 pinf.2.1 (nS _ pinf.2.2.1 pinf.2.2.2.1)
    rw [hfo'] at gfb
    have clo : CloAt (PySem.W.hideAll s4.heap (trk s4.heap (upd H P (.tbl (ps ++ more))) ++ frs X.stack)) h'.objs.size (PySem.W.fnX r (qualnameIn X.env r r) params body scope clos .none .none doc ((X.mg "__name__").getD .none) none (.ref c') ctv) (qualnameIn X.env r r) params body scope clos Nc vs := by
      refine ⟨⟨r, doc, _, c', ctv, _, _, _, rfl, gfb, c', oc, v1, t1, rfl, hid_get pinc.1 pinc.2.1 (nS _ pinc.2.2.1 pinc.2.2.2.1), gd1, gv1⟩, fun x c1 q => ?_, fun x y c1 q1 q2 => I.ok.inj x y c1 (clk x c1 q1) (clk y c1 q2), fun x q => ?_, hlen, fun i x v q1 q2 => ?_⟩
      · obtain ⟨v, g⟩ := I4.cell x c1 (clk x c1 q)
        exact ⟨v, cin x c1 v (clk x c1 q) g⟩
      · have m := cloFrom_has (cells := X.env.cells) (acc := []) (PySem.mem_of_lookup q)
        rw [hclos] at m
        exact mem_lookup m
      · obtain ⟨j, v', hj, hσj, hv'⟩ := hcap i x q1
        rw [q2] at hv'
        cases hv'
        have hmem := hNc x (List.mem_of_getElem? q1)
        have hcx : X.env.scope.names.lookup x = some .cell := hfree _ hmem rfl
        have hj' : j ≠ ir := fun z => by
          rw [z, hir] at hj
          cases hj
          rw [hrl] at hcx
          cases hcx
        obtain ⟨m, _, hl⟩ := I4.loc
        obtain ⟨u', ru, lk⟩ := hl j x v hj (by rw [List.getElem?_set_ne (Ne.symm hj')]; exact hσj) (.inr (.inl hcx))
        rcases lk with ⟨z, _⟩ | ⟨_, c3, q3, q4⟩
        · have z' : X.env.scope.names.lookup x = some .local := z
          rw [hcx] at z'
          cases z'
        · have m2 := cloFrom_has (cells := X.env.cells) (acc := []) hmem
          rw [hclos] at m2
          obtain ⟨c4, q5⟩ := mem_lookup m2
          have q6 := clk x c4 q5
          rw [q3] at q6
          cases q6
          exact ⟨_, u', q5, cin x _ _ q3 q4, ru⟩
    have fat : PySem.W.FnAt h'.objs.size (PySem.W.hideAll s4.heap (trk s4.heap (upd H P (.tbl (ps ++ more))) ++ frs X.stack)) := ⟨_, _, _, _, gfb⟩
    have R := hclo _ _ _ _ _ hM.kin hM.glob clo
    have T := hT _ _ _ _ hM.kin hM.glob fat (fun s => .of_eq (hbind clos doc _ c' ctv)) R
    have hl : (us ++ []).length = psT.length := by
      rw [List.append_nil, ← rv.length]
      exact T.len _ _ _ _ (k _ more nf)
    refine wpAny_call (codeAny_mono (T.run X.A X.stack s4 _ ⟨us, []⟩ us [va, .ref h'.objs.size] D.rt E hrT e0 (by have z := hbT s4 us I4.kIn hl; rw [List.append_nil] at z; exact z) rv (k _ more nf)) fun rs s' hq => ?_)
    cases rs with
    | error e => exact hx _ _ _ _ e s' I4 hq
    | ok fl =>
      cases fl with
      | ret uu =>
        obtain ⟨v, H5, I5, r5, q5⟩ := I4.after hq
        exact ⟨v, _, H5, I5.unpinned, r5, q5⟩
      | next => exact False.elim hq
      | brk => exact False.elim hq
      | cont => exact False.elim hq
  refine wpAny_execs_cons (thn goal fun fl s5 q => ?_)
  cases fl with
  | next => exact wpAny_execs_nil q
  | ret v => exact q
  | brk => exact q
  | cont => exact q
end
end L2
set_option Elab.async false
set_option linter.all false
set_option maxRecDepth 100000
set_option maxHeartbeats 2000000
/-! A specification's head where one def makes another: its code's table is tracked from the first heap on. A def of a local name is called. -/
namespace L2
open PySem PySem.Spec PyProof.Rows
open PySem.W (WData Codec OpenSpec Well WellAll ReadsW ReadsAllW)
theorem Same.seqT {K : PySem.W.Frag} {H H' : Hp} {a : Addr} {xs : List V} (e : Same H H') (h : SqT K H a xs) : SqT K H' a xs := by
  rcases h with (h | ⟨o, h⟩) | h
  · exact .inl (.inl (e _ _ h))
  · exact .inl (.inr ⟨o, e _ _ h⟩)
  · exact .inr h
mutual
theorem Dw.same {K : PySem.W.Frag} {H H' : Hp} (e : Same H H') : ∀ (d : WData) (v : V), Dw K H v d → Dw K H' v d
  | .none, _, x => by
    cases x
    exact .non
  | .bool b, _, x => by
    cases x
    exact .bl b
  | .int i, _, x => by
    cases x
    exact .int i
  | .str s, _, x => by
    cases x
    exact .str s
  | .bytes b, _, x => by
    cases x
    exact .byt _
  | .list ds, _, x => by
    cases x with
    | lst hs ha => exact .lst (e.seq hs) (Dw.sameAll e ds _ ha)
  | .tuple ds, _, x => by
    cases x with
    | tup hs ha => exact .tup (e.seqT hs) (Dw.sameAll e ds _ ha)
  | .float _, _, x => by cases x
  | .dict _, _, x => by cases x
  | .bytearray _, _, x => by cases x
  | .set _, _, x => by cases x
  | .frozenset _, _, x => by cases x
  | .obj _ _, _, x => by cases x
theorem Dw.sameAll {K : PySem.W.Frag} {H H' : Hp} (e : Same H H') : ∀ (ds : List WData) (vs : List V), DwAll K H vs ds → DwAll K H' vs ds
  | [], _, x => by
    cases x
    exact .nil
  | d :: ds, _, x => by
    cases x with
    | cons h1 h2 => exact .cons (Dw.same e d _ h1) (Dw.sameAll e ds _ h2)
end
theorem spec_callT {P : Program} {w : World} {K : PySem.W.Frag} {mg mb : Str → Option Value} {CX : CXT} {k : Nat} {fa c Pt : Addr} {fd : FuncData} {ps : List Str} {sp : Sp} {s₁ : Shared} {vals : List Value} {ds : List WData} {R : PySem.W.WRecords} {cl : Str → Option Addr} {d0 : WData}
    (KX : K.In s₁.heap) (hns : s₁.heap.Ns mainGlobals mg) (hb : s₁.heap.Ns builtinsNs mb) (hbb : ∀ x : Str, x ≠ "__name__" → mb x = bootBuiltins x) (hlim : s₁.heap.NoLimit) (hg : s₁.gens = #[])
    (hC : PySem.W.CodeHd s₁.heap c Pt) (hPt : s₁.heap.get? Pt = some (PySem.W.tabObj #[])) (hBm : s₁.heap.BuiltinsAt mg Pt) (hKt : K.lookup Pt = none)
    (hwl : WellAll w.params s₁.heap vals ds) (hpl : plWs ds = true) (hwt : ∀ d ∈ ds, d.weight ≤ 1048576) (hr : Room k callerA)
    (F : ∀ base : Heap, K.In base → base.Ns mainGlobals mg → PySem.W.CodeHd base c Pt → base.BuiltinsAt mg Pt → FnOk P w K mg base CX k fa fd ps sp) (hbind : ∀ (s : Shared) (us : List Value), us.length = ps.length → BindsTo s fd ⟨us, []⟩ (ps.zip us)) (hlen : ds.length = ps.length)
    (hsp : ∀ (H : Hp) (xs : List V), H Pt = some (.tbl #[]) → DwAll K H xs ds → sp xs H (fun v H' => Dw K H' v d0) fun _ _ _ => False)
    (hCX : ∀ H e s', CX [] H s₁ (fun _ _ _ => False) e s' → False) :
    codeAny (model P w) callerA (.call (.ref fa) ⟨vals, []⟩) (fun r s' => ∃ u as, r = .ok (.ret u) ∧ ReadsW R cl s'.heap u d0 as ∧ OldK s₁.heap s'.heap ∧ s'.os = s₁.os ∧ AllBare s'.gens) s₁ := by
  obtain ⟨A, ho, ar⟩ := area_all ds vals hwl hpl hwt
  have hO : OnlyF (argH K s₁.heap A) := argH_only ar
  have hok0 : HOk P w (argH K s₁.heap A) s₁.heap := argH_ok ar
  have hS0 := dw_all KX ar ds vals hwl hpl ho
  have hV := vals_toV ho
  have hK0 : ∀ b u, argH K s₁.heap A b = some u → K.lookup b = none := fun b u q => (argH_is ar q).1
  have noA0 : ∀ {b : Addr} {o : Obj}, s₁.heap.get? b = some o → (∀ vs n, o.data ≠ .seq vs n) → argH K s₁.heap A b = none := fun {b o} e d => by
    cases q : argH K s₁.heap A b with
    | none => rfl
    | some u =>
      obtain ⟨_, vs, _, _, ⟨e2, _⟩ | ⟨e2, _⟩⟩ := argH_is ar q
      · rw [e2] at e
        cases e
        exact absurd rfl (d _ _)
      · rw [e2] at e
        cases e
        exact absurd rfl (d _ _)
  have hPn : argH K s₁.heap A Pt = none := noA0 hPt fun vs n z => nomatch z
  generalize hH0 : argH K s₁.heap A = H0 at hO hok0 hS0 hK0 noA0 hPn
  have sm : Same H0 (upd H0 Pt (.tbl #[])) := fun b o q => by
    rw [upd_ne (ne_of_none q hPn)]
    exact q
  have hS := Dw.sameAll sm ds _ hS0
  have hok : HOk P w (upd H0 Pt (.tbl #[])) s₁.heap := fun b o q => by
    by_cases z : b = Pt
    · subst z
      rw [upd_same] at q
      cases q
      exact hPt
    · rw [upd_ne z] at q
      exact (hok0 b o q).stay (fun _ _ _ e => e) (fun b' q' => sm _ _ q') fun b' xs q' => sm _ _ q'
  have hK : ∀ b u, upd H0 Pt (.tbl #[]) b = some u → K.lookup b = none := fun b u q => by
    by_cases z : b = Pt
    · rw [z]
      exact hKt
    · rw [upd_ne z] at q
      exact hK0 b u q
  have noA : ∀ {b : Addr} {o : Obj}, s₁.heap.get? b = some o → (∀ vs n, o.data ≠ .seq vs n) → b ≠ Pt → upd H0 Pt (.tbl #[]) b = none := fun {b o} e d z => by
    rw [upd_ne z]
    exact noA0 e d
  have hHP : upd H0 Pt (.tbl #[]) Pt = some (.tbl #[]) := upd_same
  have hO2 : ∀ b, b ≠ Pt → upd H0 Pt (.tbl #[]) b = none ∨ ∃ o u, upd H0 Pt (.tbl #[]) b = some (.frz o u) := fun b z => by
    rw [upd_ne z]
    exact hO b
  generalize upd H0 Pt (.tbl #[]) = H at sm hS hok hK noA hHP hO2
  have base_of : ∀ {b : Addr} {o : Obj}, s₁.heap.get? b = some o → H b = none → (hidT s₁.heap H).get? b = some o := fun e n => hidT_get e n
  have nsK : ∀ {b : Addr} {m : Str → Option Value}, s₁.heap.Ns b m → (hidT s₁.heap H).Ns b m := fun {b m} ⟨o, es, ep, e, d, r⟩ => ⟨o, es, ep, base_of e (noA e (fun vs n z => by rw [d] at z; cases z) fun z => by
    rw [z, hPt] at e
    cases e
    cases d), d, r⟩
  have nK : ∀ b o, K.lookup b = some o → H b = none := fun b o e => by
    cases q : H b with
    | none => rfl
    | some u =>
      rw [hK b u q] at e
      cases e
  have hKb : K.In (hidT s₁.heap H) := fun b o e => base_of (KX b o e) (nK b o e)
  have hM : Mod K mg (hidT s₁.heap H) := ⟨hKb, nsK hns, ⟨mb, nsK hb, hbb⟩, let ⟨mc, h1, h2⟩ := hlim; ⟨mc, nsK h1, h2⟩⟩
  have hCb : PySem.W.CodeHd (hidT s₁.heap H) c Pt := by
    obtain ⟨o, vs, file, tf, flags, tg, inF, text, tt, e1, e2, e3, r⟩ := hC
    refine ⟨o, vs, file, tf, flags, tg, inF, text, tt, base_of e1 (noA e1 (fun vs n z => by rw [e3] at z; cases z) fun z => ?_), e2, e3, r⟩
    exact r.2.2.2.2.2.2 z
  have hBb : (hidT s₁.heap H).BuiltinsAt mg Pt := by
    obtain ⟨bm, o, h1, h2, h3, h4, h5, h6, h7, h8⟩ := hBm
    exact ⟨bm, o, h1, h2, h3, h4, base_of h5 (noA h5 (fun vs n z => by rw [h8] at z; cases z) h4), h6, h7, h8⟩
  have e0 : Env0 P w K mg (hidT s₁.heap H) callerA [] s₁ H := ⟨rfl, hM, fun b o e => of_hidT e, Nat.le_of_eq (hidT_size _ _), trivial, fun b hb => absurd (show b ∈ ([] : List Addr) from hb) (by simp), hok, .of_eq hg⟩
  have hl : vals.length = ps.length := by rw [wellAll_len hwl]; exact hlen
  refine codeAny_mono ((F _ hKb (nsK hns) hCb hBb).run callerA [] s₁ H ⟨vals, []⟩ vals (vals.map toV) _ _ hr e0 (hbind s₁ vals hl) hV (hsp H _ hHP hS)) fun r s' x => ?_
  cases r with
  | error e => exact (hCX H e s' x).elim
  | ok fl =>
    cases fl with
    | next => exact False.elim x
    | brk => exact False.elim x
    | cont => exact False.elim x
    | ret u =>
      obtain ⟨v, H', os, bare, un, hok', r', q⟩ := x
      have kept : ∀ b o, b ≠ Pt → s₁.heap.get? b = some o → s'.heap.get? b = some o := fun b o nb e => by
        cases q2 : H b with
        | none => exact un.keep b o e q2 (by intro z; exact absurd (show b ∈ ([] : List Addr) from z) (by simp)) (by simp)
        | some u2 =>
          rcases hO2 b nb with z | ⟨ob, u3, z⟩
          · rw [q2] at z
            cases z
          · have z2 := un.frzs b ob _ z
            obtain ⟨e1, _⟩ := hok b _ z
            obtain ⟨e2, _⟩ := hok' b _ z2
            rw [e] at e1
            cases e1
            exact e2
      have KX' : K.In s'.heap := fun b o e => kept b o (fun z => by rw [z, hKt] at e; cases e) (KX b o e)
      obtain ⟨more, hm⟩ := un.tbls Pt _ hHP
      have gm : s'.heap.get? Pt = some (PySem.W.tabObj (#[] ++ more)) := hok' Pt _ hm
      have old : OldK s₁.heap s'.heap := by
        refine ⟨fun b o e => ?_, fun b o e => ?_⟩
        · by_cases z : b = Pt
          · subst z
            rw [hPt] at e
            cases e
            exact .inr (.inl ⟨(hC.tab hPt).isCodeTable, rfl, #[], more, rfl, gm⟩)
          · exact .inl (kept b o z e)
        · by_cases z : b = Pt
          · subst z
            exact ⟨_, gm⟩
          · exact ⟨o, kept b o z e⟩
      obtain ⟨as, hrd⟩ := Dw.reads (R := R) (cl := cl) hok' KX' d0 v u q r'
      exact ⟨u, as, rfl, hrd, old, os, bare⟩
def noTab (K : PySem.W.Frag) : Bool := K.all fun p => match p.2.data with
  | .fields vs => !vs.isEmpty
  | _ => true
def noLst (K : PySem.W.Frag) : Bool := K.all fun p => match p.2.data with
  | .seq _ _ => (match p.2.cls with | .type t => t != "list" | _ => false)
  | _ => true
theorem look_mem {α β : Type} [BEq α] [LawfulBEq α] : ∀ {l : List (α × β)} {a : α} {b : β}, l.lookup a = some b → (a, b) ∈ l
  | [], _, _, h => by cases h
  | (x, y) :: r, a, b, h => by
    rw [List.lookup_cons] at h
    cases e : a == x with
    | true =>
      rw [e] at h
      cases h
      rw [eq_of_beq e]
      exact List.mem_cons_self
    | false =>
      rw [e] at h
      exact List.mem_cons_of_mem _ (look_mem h)
theorem frag_mem {K : PySem.W.Frag} {b : Addr} {o : Obj} (e : K.lookup b = some o) : (b, o) ∈ K := look_mem e
theorem noTab_of {K : PySem.W.Frag} {h : Heap} {b : Addr} (X : K.In h) (n : noTab K = true) (e : h.get? b = some (PySem.W.tabObj #[])) : K.lookup b = none := by
  cases q : K.lookup b with
  | none => rfl
  | some o =>
    have e2 := X b o q
    rw [e] at e2
    cases e2
    have z := List.all_eq_true.mp n _ (frag_mem q)
    exact absurd (show false = true from z) Bool.false_ne_true
theorem noLst_of {K : PySem.W.Frag} {H : Hp} {a : Addr} {xs : List V} (n : noLst K = true) (h : SqL K H a xs) : Rd H a (.lst xs) := by
  rcases h with h | ⟨o, its, m, e, hc, _, hd, _, _⟩
  · exact h
  · have z := List.all_eq_true.mp n _ (frag_mem e)
    dsimp only at z
    rw [hd, hc] at z
    exact absurd (show false = true from z) Bool.false_ne_true
theorem walk_specT {r : OpenSpec} {k : Nat} {q : Program} {loose : List Str} {XP : (Str → Option Value) → Heap → Prop} {YP : World → Heap → Prop} {d : DefRec} {K : Params → PySem.W.Frag} {CX : World → CXT} {ps : List Str} {sp : World → Addr → Sp} (nm : Str)
    (hwell : r.wellSaid = true) (hdf : d.params.defaults = []) (hlen : r.args.length = ps.length) (hr : Room k callerA) (hnm : ((recsOf q).find? fun e => e.name == nm).isSome = true) (hnt : ∀ w : World, noTab (K w.params) = true) (hnl : ∀ w : World, noLst (K w.params) = true)
    (hY : ∀ (w : World) (h : Heap), YP w h → (K w.params).In h)
    (F : ∀ (w : World) (mg : Str → Option Value) (fa c Pt : Addr) (h : Heap), YP w h → (K w.params).In h → h.Ns mainGlobals mg → mg d.name = some (.ref fa) → (∃ a o fdn, mg nm = some (.ref a) ∧ h.get? a = some o ∧ o.data = .func fdn ∧ fdn.code = .ref c) →
      ∃ fd : FuncData, (∀ (s : Shared) (us : List Value), us.length = ps.length → BindsTo s fd ⟨us, []⟩ (ps.zip us)) ∧
        ∀ base : Heap, (K w.params).In base → base.Ns mainGlobals mg → PySem.W.CodeHd base c Pt → base.BuiltinsAt mg Pt → FnOk r.prog w (K w.params) mg base (CX w) k fa fd ps (sp w Pt))
    (hsp : ∀ (w : World) (Pt : Addr) (H : Hp) (xs : List V) (a : Codec.denoteAll r.args), H Pt = some (.tbl #[]) → noLst (K w.params) = true → Codec.withinAll r.args a = true → Codec.app r.args r.asked a = true → DwAll (K w.params) H xs (Codec.encAll r.args a) →
      sp w Pt xs H (fun v H' => Dw (K w.params) H' v (r.ret.enc (Codec.app r.args r.f a))) fun _ _ _ => False)
    (hCX : ∀ (w : World) (H : Hp) (s : Shared) (e : Value) (s' : Shared), CX w [] H s (fun _ _ _ => False) e s' → False) :
    PySem.W.WalkOS q loose XP YP r d [] (fun f vs => PySem.call f vs) := by
  intro w s_0 s₁ mg mb G Y fa o pm cd doc dV kV ho hd hcd hD hmg hg args vals as hpre hlay hrd hwl hlo
  obtain ⟨a, e1, e2⟩ := PySem.W.os_pre_some hpre
  obtain ⟨e3, hwi⟩ := Codec.encAll_of_decAll r.args args a e1
  subst e3
  have KX := hY w _ Y
  obtain ⟨dn, hdn⟩ := Option.isSome_iff_exists.mp hnm
  have hn : dn.name = nm := beq_iff_eq.mp (List.find?_some (p := fun e : DefRec => e.name == nm) hdn)
  obtain ⟨an, on, fdn, c, Pt, t1, t2, t3, t4, t5, t6⟩ := G.T.tab dn (List.mem_of_find?_eq_some hdn)
  rw [hn] at t1
  have hC : PySem.W.CodeHd s₁.heap c Pt := .of t5 t6
  have hBm : s₁.heap.BuiltinsAt mg Pt := by
    obtain ⟨bm, ob, b1, b2, b3, b4, b5, b6⟩ := G.T.bmain
    refine ⟨bm, ob, b1, b2, fun z => ?_, fun z => ?_, b3, b4, b5, b6⟩
    · obtain ⟨og, es, ep, g1, g2, _⟩ := G.T.g
      rw [z, g1] at b3
      cases b3
      rw [g2] at b6
      cases b6
    · rw [z, t6.2] at b3
      cases b3
      cases b6
  obtain ⟨fd, hb, hF⟩ := F w mg fa c Pt _ Y KX G.T.g hmg ⟨an, on, fdn, t1, t2, t3, t4⟩
  refine PySem.W.enter_call (codeAny_mono (spec_callT (R := []) (cl := classAt s_0.heap) (d0 := r.ret.enc (Codec.app r.args r.f a)) KX G.T.g G.T.b G.T.builtins G.T.nolimit hg hC t6.2 hBm (noTab_of KX (hnt w) t6.2) hwl (pl_encAll _ _) (layable_weight hlay) hr hF hb (by rw [encAll_len]; exact hlen)
    (fun H xs hO hS => hsp w Pt H xs a hO (hnl w) hwi e2 hS) fun H e s' => hCX w H s₁ e s') fun r' s' hq => ?_)
  obtain ⟨u, as', rfl, h1, h2, h3, h4⟩ := hq
  exact ⟨.inl ⟨u, _, as', rfl, fun _ => rfl, h1, (OpenSpec.post_iff hwell hwi _ _).mpr rfl, fun z => Bool.noConfusion (show false = true from z)⟩, h2, h3, h4⟩
theorem noCXn {P : Program} {w : World} {l : List Env} {H : Hp} {s s' : Shared} {e : Value} (h : CXn P w l H s (fun _ _ _ => False) e s') : False := by
  obtain ⟨_, _, _, _, _, q⟩ := h
  exact q
/-! ### a def whose code is known -/
section
variable {P : Program} {w : World} {K : PySem.W.Frag} {mg : Str → Option Value} {base : Heap} {N : List Str} {qual : Str} {f : Addr}
structure FunC (K : PySem.W.Frag) (x qual : Str) (st : Stmt) (f c : Addr) (fd : FuncData) : Prop where
  ex : ∃ (oc : Value) (od : Option Addr) (kV doc pm : Value) (an : Option Addr) (ct : Value) (osl : Array (Option Value)),
    fd = PySem.W.fnOf x qual (defArgs st) (defBody st) (defScope st) .none kV doc pm an (.ref c) ct ∧ K.lookup f = some ⟨oc, od, .func fd, osl⟩ ∧ PySem.W.codeIn K (.ref c) qual = true
theorem FunC.okN {x : Str} {st : Stmt} {fd : FuncData} {ps : List Str} {k : Nat} {sp : Sp} {c : Addr} (F : FunC K x qual st f c fd) (S : FnScope N ps (defScope st)) (len : ∀ vs H Q E, sp vs H Q E → vs.length = ps.length)
    (hbody : ∀ (A : Around) (outer : List Env) (s : Shared) (H : Hp) (vs : List V) (Q : VK) (E : XK), Room k (A.deeper (envOfC qual (defScope st) s.heap.objs.size f (.ref c))) → sp vs H Q E →
      ∃ t, PSs (cxOf (CXn P w) P w K mg base N qual (defScope st) f (.ref c) A outer s H E) (defBody st) t ∧ t { nx := fun _ H' => Q .non H', rt := Q } (start N vs) H) : FnOk P w K mg base (CXn P w) (k + 1) f fd ps sp := by
  obtain ⟨oc, od, kV, doc, pm, an, ct, osl, rfl, lk, hcd⟩ := F.ex
  exact fn_of lk hcd S len fun A outer s H vs Q E hr hsp => hbody A outer s H vs Q E hr hsp
theorem Fun.code {x : Str} {st : Stmt} {fd : FuncData} {c a : Addr} {h : Heap} {o : Obj} {fdn : FuncData} (F : Fun K x qual st f fd) (X : K.In h) (hf : a = f) (ho : h.get? a = some o) (hd : o.data = .func fdn) (hc : fdn.code = .ref c) : FunC K x qual st f c fd := by
  obtain ⟨oc, od, kV, doc, pm, an, cdv, ct, osl, rfl, lk, hcd⟩ := F.ex
  subst hf
  have e := X _ _ lk
  rw [ho] at e
  cases e
  cases hd
  have e2 : cdv = .ref c := hc
  subst e2
  exact ⟨oc, od, kV, doc, pm, an, ct, osl, rfl, lk, hcd⟩
end
section
variable {X : Cx}
def CMulW (i j : Int) : Prop := Builtin.Int.intBits i ≤ 2 ^ 20 ∧ Builtin.Int.intBits j ≤ 2 ^ 20
end
end L2
namespace Dbl
open Sv23
/-! ### bits -/
theorem and_mul_pow (x m k : Nat) : x &&& (m * 2 ^ k) = ((x / 2 ^ k) &&& m) * 2 ^ k := by
  apply Nat.eq_of_testBit_eq
  intro i
  rw [Nat.testBit_and, Nat.testBit_mul_two_pow, Nat.testBit_mul_two_pow, Nat.testBit_and, Nat.testBit_div_two_pow]
  by_cases h : k ≤ i
  · have e : i - k + k = i := Nat.sub_add_cancel h
    simp [h, e]
  · simp [h]
theorem and_inf (x : Nat) : x &&& 9218868437227405312 = x / 2 ^ 52 % 2 ^ 11 * 2 ^ 52 := by
  have e := and_mul_pow x 2047 52
  have e2 : x / 2 ^ 52 &&& 2047 = x / 2 ^ 52 % 2 ^ 11 := Nat.and_two_pow_sub_one_eq_mod (x / 2 ^ 52) 11
  rw [e2] at e
  exact e
theorem and_frac (x : Nat) : x &&& 4503599627370495 = x % 2 ^ 52 := Nat.and_two_pow_sub_one_eq_mod x 52
theorem and_sign (x : Nat) : x &&& 9223372036854775808 = x / 2 ^ 63 % 2 * 2 ^ 63 := by
  have e := and_mul_pow x 1 63
  have e2 : x / 2 ^ 63 &&& 1 = x / 2 ^ 63 % 2 ^ 1 := Nat.and_two_pow_sub_one_eq_mod (x / 2 ^ 63) 1
  rw [e2] at e
  exact e
theorem or_add_and (m : Nat) : ∀ n : Nat, (m ||| n) + (m &&& n) = m + n := by
  induction m using Nat.strongRecOn with
  | _ m ih =>
    intro n
    by_cases h0 : m = 0
    · subst h0; simp
    · have ih' := ih (m / 2) (by omega) (n / 2)
      rw [← Nat.or_div_two, ← Nat.and_div_two] at ih'
      have o1 := @Nat.or_mod_two_eq_one m n
      have a1 := @Nat.and_mod_two_eq_one m n
      omega
/-! ### the fields of a double -/
def ex (x : Nat) : Nat := max (mag x / 2 ^ 52) 1 - 1
theorem mag_eq (x : Nat) : mag x = x % 9223372036854775808 := rfl
theorem mag_div (x : Nat) : mag x / 2 ^ 52 = x / 2 ^ 52 % 2 ^ 11 := by rw [mag_eq]; omega
theorem scale_ex (x : Nat) : scale x = (ex x : Int) - 1074 := by
  unfold scale ex
  have : 1 ≤ max (mag x / 2 ^ 52) 1 := Nat.le_max_right _ _
  omega
theorem units_small {x : Nat} (h : x &&& 9218868437227405312 = 0) : units x = x &&& 4503599627370495 := by
  rw [and_inf] at h
  rw [and_frac]
  have h1 := mag_div x
  have h2 : mag x < 2 ^ 52 := by omega
  unfold units
  rw [if_pos h2, mag_eq]
  rw [mag_eq] at h2
  omega
theorem units_big {x : Nat} (h : ¬ x &&& 9218868437227405312 = 0) : units x = (x &&& 4503599627370495) + 4503599627370495 + 1 := by
  rw [and_inf] at h
  rw [and_frac]
  have h1 := mag_div x
  have h2 : ¬ mag x < 2 ^ 52 := by omega
  unfold units
  rw [if_neg h2, mag_eq]
  rw [mag_eq] at h2
  omega
theorem units_lt (x : Nat) : units x < 2 ^ 53 := by
  unfold units
  split <;> omega
theorem ex_lt (x : Nat) : ex x < 2047 := by
  unfold ex
  have h := mag_div x
  omega
theorem minus_iff {x : Nat} (h : x < 2 ^ 64) : (minus x = true) ↔ 2 ^ 63 ≤ x := by
  unfold minus TOP
  rw [Nat.mod_eq_of_lt h]
  exact decide_eq_true_iff
theorem sign_true {x : Nat} (h : x < 2 ^ 64) (hm : minus x = true) : x &&& 9223372036854775808 = 9223372036854775808 := by
  have := (minus_iff h).mp hm
  rw [and_sign]; omega
theorem sign_false {x : Nat} (h : x < 2 ^ 64) (hm : minus x = false) : x &&& 9223372036854775808 = 0 := by
  have h1 : ¬ 2 ^ 63 ≤ x := fun z => by rw [(minus_iff h).mpr z] at hm; cases hm
  rw [and_sign]; omega
theorem sign_if {x : Nat} (h : x < 2 ^ 64) : x &&& 9223372036854775808 = signed (minus x) 0 := by
  cases hm : minus x with
  | true => rw [sign_true h hm]; rfl
  | false => rw [sign_false h hm]; rfl
theorem finite_iff {x : Nat} : (finite x = true) ↔ ¬ x &&& 9218868437227405312 = 9218868437227405312 := by
  rw [and_inf]
  have h1 := mag_div x
  have h2 : mag x < 2 ^ 63 := Nat.mod_lt _ (by decide)
  unfold finite
  rw [decide_eq_true_iff]
  show mag x < 2047 * 2 ^ 52 ↔ _
  omega
theorem signed_lt {s : Bool} {m : Nat} (h : m < 2 ^ 63) : signed s m < 2 ^ 64 := by
  cases s
  · show m < _; omega
  · show 9223372036854775808 + m < _; omega
theorem mag_signed {s : Bool} {m : Nat} (h : m < 2 ^ 63) : mag (signed s m) = m := by
  rw [mag_eq]
  cases s
  · show m % _ = m; omega
  · show (9223372036854775808 + m) % _ = m; omega
theorem finite_signed {s : Bool} {m : Nat} (h : m < 2 ^ 63) : finite (signed s m) = decide (m < 2047 * 2 ^ 52) := by
  unfold finite
  rw [mag_signed h]; rfl
theorem or_sign {s : Bool} {m : Nat} (h : m < 2 ^ 63) : (signed s 0) ||| m = signed s m := by
  cases s
  · have e1 : signed false 0 = 0 := rfl
    have e2 : signed false m = m := rfl
    rw [e1, e2, Nat.zero_or]
  · have e := or_add_and 9223372036854775808 m
    rw [Nat.and_comm, sign_false (x := m) (by omega) (by
      cases hm : minus m with
      | false => rfl
      | true => have := (minus_iff (by omega)).mp hm; omega)] at e
    have e1 : signed true 0 = 9223372036854775808 := rfl
    have e2 : signed true m = 9223372036854775808 + m := rfl
    rw [e1, e2]
    omega
theorem xor_sign {x y : Nat} (hx : x < 2 ^ 64) (hy : y < 2 ^ 64) : (x ^^^ y) &&& 9223372036854775808 = signed (minus x != minus y) 0 := by
  have e : (x ^^^ y) &&& 9223372036854775808 = (x &&& 9223372036854775808) ^^^ (y &&& 9223372036854775808) := by
    apply Nat.eq_of_testBit_eq
    intro i
    simp only [Nat.testBit_and, Nat.testBit_xor]
    cases x.testBit i <;> cases y.testBit i <;> cases (9223372036854775808 : Nat).testBit i <;> rfl
  rw [e, sign_if hx, sign_if hy]
  cases minus x <;> cases minus y <;> decide
theorem and_sign2 {x y : Nat} (hx : x < 2 ^ 64) (hy : y < 2 ^ 64) : (x &&& y) &&& 9223372036854775808 = signed (minus x && minus y) 0 := by
  have e : (x &&& y) &&& 9223372036854775808 = (x &&& 9223372036854775808) &&& (y &&& 9223372036854775808) := by
    apply Nat.eq_of_testBit_eq
    intro i
    simp only [Nat.testBit_and]
    cases x.testBit i <;> cases y.testBit i <;> cases (9223372036854775808 : Nat).testBit i <;> rfl
  rw [e, sign_if hx, sign_if hy]
  cases minus x <;> cases minus y <;> decide
theorem zero_iff (x : Nat) : (zero x = true) ↔ units x = 0 := by
  unfold zero units
  rw [beq_iff_eq]
  have h : mag x < 2 ^ 63 := Nat.mod_lt _ (by decide)
  split <;> omega
end Dbl
namespace Dbl
open Sv23
/-! ### rounding -/
theorem two_pow_pred {d : Nat} (h : 0 < d) : 2 ^ d = 2 * 2 ^ (d - 1) := by
  obtain ⟨k, rfl⟩ : ∃ k, d = k + 1 := ⟨d - 1, by omega⟩
  rw [Nat.add_sub_cancel, Nat.pow_succ, Nat.mul_comm]
theorem nearest_by (m : Nat) {d : Nat} (h : 0 < d) :
    nearest m d = if 2 ^ (d - 1) < m % 2 ^ d ∨ (m % 2 ^ d = 2 ^ (d - 1) ∧ m / 2 ^ d % 2 = 1) then m / 2 ^ d + 1 else m / 2 ^ d := by
  unfold nearest
  have e := two_pow_pred h
  dsimp only
  generalize 2 ^ (d - 1) = p at e
  rw [e]
  generalize m % (2 * p) = r
  generalize m / (2 * p) = q
  have c : (2 * p < 2 * r ∨ 2 * r = 2 * p ∧ q % 2 = 1) ↔ (p < r ∨ r = p ∧ q % 2 = 1) := by omega
  by_cases hc : (p < r ∨ r = p ∧ q % 2 = 1)
  · rw [if_pos hc, if_pos (c.mpr hc)]
  · rw [if_neg hc, if_neg (fun z => hc (c.mp z))]
theorem nearest_ge (m d : Nat) : m / 2 ^ d ≤ nearest m d := by
  unfold nearest
  dsimp only
  split <;> omega
theorem coded_le (m : Nat) (e : Int) : coded m e ≤ infinity := by
  unfold coded
  dsimp only
  generalize max (e + (m.log2 : Int) - 52) (-1074) = q
  generalize (if q ≤ e then m * 2 ^ (e - q).toNat else nearest m (q - e).toNat) = n
  by_cases h : n < 2 ^ 52
  · rw [if_pos h]
    exact Nat.le_of_lt (Nat.lt_of_lt_of_le h (by decide))
  · rw [if_neg h]
    exact Nat.min_le_left _ _
theorem coded_lt (m : Nat) (e : Int) : coded m e < 2 ^ 63 := Nat.lt_of_le_of_lt (coded_le m e) (by decide)
def dropped (m : Nat) (e : Int) : Int := max ((m.log2 : Int) + 1 - 53) (-e)
def kept (m : Nat) (e : Int) : Nat := if 0 < dropped m e then nearest m (dropped m e).toNat else m * 2 ^ (-(dropped m e)).toNat
def bits (m : Nat) (e : Int) : Int := (e + dropped m e) * 2 ^ 52 + kept m e
theorem dropped_ge (m : Nat) (e : Int) : 0 ≤ e + dropped m e := by unfold dropped; omega
theorem bits_nonneg (m : Nat) (e : Int) : 0 ≤ bits m e := by
  unfold bits
  have := dropped_ge m e
  omega
theorem kept_big {m : Nat} {e : Int} (hm : 0 < m) (h : -e < dropped m e) : 2 ^ 52 ≤ kept m e := by
  have hl : 2 ^ m.log2 ≤ m := Nat.log2_self_le (by omega)
  have hd : dropped m e = (m.log2 : Int) + 1 - 53 := by unfold dropped at h ⊢; omega
  unfold kept
  split
  · rename_i h0
    refine Nat.le_trans ?_ (nearest_ge _ _)
    rw [Nat.le_div_iff_mul_le (Nat.two_pow_pos _), ← Nat.pow_add]
    have e1 : 52 + (dropped m e).toNat = m.log2 := by omega
    rw [e1]; exact hl
  · rename_i h0
    have e1 : m.log2 + (-(dropped m e)).toNat = 52 := by omega
    calc 2 ^ 52 = 2 ^ m.log2 * 2 ^ (-(dropped m e)).toNat := by rw [← Nat.pow_add, e1]
      _ ≤ m * 2 ^ (-(dropped m e)).toNat := Nat.mul_le_mul_right _ hl
theorem coded_bits {m : Nat} (hm : 0 < m) (e : Int) : coded m (e - 1074) = min infinity (bits m e).toNat := by
  have hq : max ((e - 1074) + (m.log2 : Int) - 52) (-1074) = dropped m e + e - 1074 := by unfold dropped; omega
  have hn : (if dropped m e + e - 1074 ≤ e - 1074 then m * 2 ^ ((e - 1074) - (dropped m e + e - 1074)).toNat else nearest m ((dropped m e + e - 1074) - (e - 1074)).toNat) = kept m e := by
    have e1 : (e - 1074) - (dropped m e + e - 1074) = -(dropped m e) := by omega
    have e2 : (dropped m e + e - 1074) - (e - 1074) = dropped m e := by omega
    rw [e1, e2]
    unfold kept
    by_cases h : 0 < dropped m e
    · rw [if_pos h, if_neg (by omega)]
    · rw [if_neg h, if_pos (by omega)]
  have big := kept_big (e := e) hm
  have ge := dropped_ge m e
  unfold coded
  dsimp only
  rw [hq, hn]
  by_cases hk : kept m e < 2 ^ 52
  · have hd : dropped m e = -e := by
      by_cases z : -e < dropped m e
      · have := big z; omega
      · omega
    rw [if_pos hk]
    unfold bits
    rw [hd]
    have hinf : infinity = 9218868437227405312 := rfl
    rw [hinf]
    have e0 : (e + -e) * 2 ^ 52 + (kept m e : Int) = (kept m e : Int) := by omega
    rw [e0, Int.toNat_natCast]
    omega
  · rw [if_neg hk]
    unfold bits
    have e0 : (dropped m e + e - 1074 + 1075).toNat * 2 ^ 52 + (kept m e - 2 ^ 52) = ((e + dropped m e) * 2 ^ 52 + (kept m e : Int)).toNat := by omega
    rw [e0]
/-! ### sums, products -/
def rnd (s : Bool) (m : Nat) (e : Int) : Nat := if m = 0 then signed s 0 else signed s (coded m (e - 1074))
theorem rnd_lt (s : Bool) (m : Nat) (e : Int) : rnd s m e < 2 ^ 64 := by
  unfold rnd
  split
  · exact signed_lt (by decide)
  · exact signed_lt (coded_lt _ _)
def whole (x y : Nat) : Int := amount x * 2 ^ (ex x - min (ex x) (ex y)) + amount y * 2 ^ (ex y - min (ex x) (ex y))
theorem sc_sub (x y : Nat) : (scale x - min (scale x) (scale y)).toNat = ex x - min (ex x) (ex y) := by rw [scale_ex, scale_ex]; omega
theorem sc_sub' (x y : Nat) : (scale y - min (scale x) (scale y)).toNat = ex y - min (ex x) (ex y) := by rw [scale_ex, scale_ex]; omega
theorem sc_min (x y : Nat) : min (scale x) (scale y) = (min (ex x) (ex y) : Nat) - 1074 := by rw [scale_ex, scale_ex]; omega
theorem amount_nonpos {x : Nat} (h : minus x = true) : amount x ≤ 0 := by unfold amount; rw [if_pos h]; omega
theorem amount_zero {x : Nat} : amount x = 0 ↔ zero x = true := by
  rw [zero_iff]
  unfold amount
  split <;> omega
theorem ipow_pos (k : Nat) : (0 : Int) < 2 ^ k := by
  have : (0 : Int) < (2 : Int) := by decide
  exact Int.pow_pos this
theorem add_eq {x y : Nat} : add x y = if whole x y = 0 then signed (minus x && minus y) 0 else rnd (decide (whole x y < 0)) (whole x y).natAbs (min (ex x) (ex y) : Nat) := by
  have hw : amount x * 2 ^ (scale x - min (scale x) (scale y)).toNat + amount y * 2 ^ (scale y - min (scale x) (scale y)).toNat = whole x y := by
    rw [sc_sub, sc_sub']; rfl
  unfold add
  dsimp only
  rw [hw]
  by_cases h : whole x y = 0
  · rw [if_pos h, if_pos h]
    congr 1
    cases hx : minus x with
    | false => simp
    | true =>
      cases hy : minus y with
      | false => simp
      | true =>
        have a := amount_nonpos hx
        have b := amount_nonpos hy
        have px := ipow_pos (ex x - min (ex x) (ex y))
        have py := ipow_pos (ex y - min (ex x) (ex y))
        have ma : amount x * 2 ^ (ex x - min (ex x) (ex y)) ≤ 0 := Int.mul_nonpos_of_nonpos_of_nonneg a (Int.le_of_lt px)
        have mb : amount y * 2 ^ (ex y - min (ex x) (ex y)) ≤ 0 := Int.mul_nonpos_of_nonpos_of_nonneg b (Int.le_of_lt py)
        have h' := h
        unfold whole at h'
        have za : amount x * 2 ^ (ex x - min (ex x) (ex y)) = 0 := by omega
        have zb : amount y * 2 ^ (ex y - min (ex x) (ex y)) = 0 := by omega
        have ax : amount x = 0 := (Int.mul_eq_zero.mp za).resolve_right (by omega)
        have ay : amount y = 0 := (Int.mul_eq_zero.mp zb).resolve_right (by omega)
        rw [amount_zero.mp ax, amount_zero.mp ay]; rfl
  · rw [if_neg h, if_neg h]
    unfold nearestTo rnd
    rw [if_neg (by omega), sc_min]
theorem mul_eq (x y : Nat) : mul x y = rnd (minus x != minus y) (units x * units y) ((ex x : Int) + ex y - 1074) := by
  unfold mul rnd
  dsimp only
  by_cases h : zero x = true ∨ zero y = true
  · rw [if_pos h, if_pos]
    rcases h with h | h
    · rw [(zero_iff x).mp h, Nat.zero_mul]
    · rw [(zero_iff y).mp h, Nat.mul_zero]
  · rw [if_neg h, if_neg]
    · rw [scale_ex, scale_ex]
      congr 2
      omega
    · intro z
      rcases Nat.mul_eq_zero.mp z with z | z
      · exact h (.inl ((zero_iff x).mpr z))
      · exact h (.inr ((zero_iff y).mpr z))
theorem add_lt (x y : Nat) : add x y < 2 ^ 64 := by
  rw [add_eq]
  split
  · exact signed_lt (by decide)
  · exact rnd_lt _ _ _
theorem mul_lt (x y : Nat) : mul x y < 2 ^ 64 := by rw [mul_eq]; exact rnd_lt _ _ _
/-! ### quotients -/
def quo (x y : Nat) : Nat := 2 * (units x * 2 ^ 108 / units y) + if units x * 2 ^ 108 % units y = 0 then 0 else 1
/-! ### order -/
def ord (x : Nat) : Int := if minus x = true then -(mag x : Int) else mag x
def val (m : Nat) : Nat := (if m < 2 ^ 52 then m else m % 2 ^ 52 + 2 ^ 52) * 2 ^ (max (m / 2 ^ 52) 1 - 1)
end Dbl
namespace Dbl
open Sv23
/-! ### roots -/
def IsRoot (n r : Nat) : Prop := r * r ≤ n ∧ n < (r + 1) * (r + 1)
def sq (x : Nat) : Nat := units x * 2 ^ (110 + ex x % 2)
def rt (x A : Nat) : Nat := 2 * A + if A * A = sq x then 0 else 1
def rte (x : Nat) : Int := ((ex x : Int) + 1074 - (110 + ex x % 2 : Nat)) / 2 - 1
/-! ### signs -/
end Dbl
namespace Run
open Sv23
/-! ### the specification's steps, each by its end -/
abbrev bad : Io := .ret (ok (-4))
def chk (v : Nat) : Option Nat := if finite v = true then some v else none
def onN (o : Option Nat) (k : Nat → Io) : Io := match o with
  | some v => k v
  | none => bad
def onL (o : Option (List Nat)) (k : List Nat → Io) : Io := match o with
  | some v => k v
  | none => bad
theorem need_on (x : Nat) (k : Nat → Io) : need x k = onN (chk x) k := by
  unfold need chk
  split <;> rfl
def mulAdd (s a b : Nat) : Option Nat := (chk (mul a b)).bind fun z => chk (add s z)
def mulSub (s a b : Nat) : Option Nat := (chk (mul a b)).bind fun z => chk (sub s z)
def dotO : List Nat → List Nat → Nat → Option Nat
  | a :: r, b :: t, s => (mulAdd s a b).bind fun s => dotO r t s
  | _, _, s => some s
theorem dot_on : ∀ (x y : List Nat) (s : Nat) (k : Nat → Io), dotFrom x y s k = onN (dotO x y s) k
  | [], _, _, _ => rfl
  | _ :: _, [], _, _ => rfl
  | a :: r, b :: t, s, k => by
    show times a b (fun z => plus s z fun s => dotFrom r t s k) = onN ((mulAdd s a b).bind fun s => dotO r t s) k
    unfold times mulAdd
    rw [need_on]
    cases chk (mul a b) with
    | none => rfl
    | some z =>
      show plus s z (fun s => dotFrom r t s k) = onN ((chk (add s z)).bind fun s => dotO r t s) k
      unfold plus
      rw [need_on]
      cases chk (add s z) with
      | none => rfl
      | some s2 => exact dot_on r t s2 k
def rowO (f : Nat → Nat → Option Nat) : List Nat → List Nat → Option (List Nat)
  | a :: r, b :: s => (f a b).bind fun x => (rowO f r s).bind fun l => some (x :: l)
  | _, _ => some []
def alongO (x : List Nat) (a : Nat) (y : List Nat) : Option (List Nat) := rowO (fun p q => mulAdd p a q) x y
def againstO (x : List Nat) (a : Nat) (y : List Nat) : Option (List Nat) := rowO (fun p q => mulSub p a q) x y
def lessO (x y : List Nat) : Option (List Nat) := rowO (fun p q => chk (sub p q)) x y
/-! ### sizes and bounds -/
def D64 (l : List Nat) : Prop := ∀ x ∈ l, x < 2 ^ 64
theorem chk_eq {v z : Nat} (h : chk v = some z) : z = v := by
  unfold chk at h
  split at h
  · exact (Option.some.inj h).symm
  · cases h
theorem mulAdd_lt {s a b z : Nat} (h : mulAdd s a b = some z) : z < 2 ^ 64 := by
  unfold mulAdd at h
  cases e : chk (mul a b) with
  | none => rw [e] at h; cases h
  | some y =>
    rw [e] at h
    rw [chk_eq (show chk (add s y) = some z from h)]
    exact Dbl.add_lt _ _
/-! ### as a loop comes to it: from the front, the last place by itself -/
theorem dotO_take : ∀ {x y : List Nat} {i : Nat} {a b s : Nat}, x[i]? = some a → y[i]? = some b → dotO (x.take (i + 1)) (y.take (i + 1)) s = (dotO (x.take i) (y.take i) s).bind fun z => mulAdd z a b
  | [], _, _, _, _, _, h, _ => by simp at h
  | _ :: _, [], _, _, _, _, _, h => by simp at h
  | p :: r, q :: t, 0, a, b, s, h1, h2 => by
    have e1 : p = a := by simpa using h1
    have e2 : q = b := by simpa using h2
    subst e1 e2
    show (mulAdd s p q).bind (fun s => dotO [] [] s) = mulAdd s p q
    cases mulAdd s p q <;> rfl
  | p :: r, q :: t, i + 1, a, b, s, h1, h2 => by
    show (mulAdd s p q).bind (fun s => dotO (r.take (i + 1)) (t.take (i + 1)) s) = ((mulAdd s p q).bind fun s => dotO (r.take i) (t.take i) s).bind fun z => mulAdd z a b
    cases mulAdd s p q with
    | none => rfl
    | some z => exact dotO_take (by simpa using h1) (by simpa using h2)
theorem dotO_none : ∀ {x y : List Nat} {i : Nat} {s : Nat}, dotO (x.take i) (y.take i) s = none → dotO x y s = none
  | [], _, i, s, h => by cases i <;> cases h
  | _ :: _, [], i, s, h => by cases i <;> cases h
  | p :: r, q :: t, 0, s, h => by cases h
  | p :: r, q :: t, i + 1, s, h => by
    have h : (mulAdd s p q).bind (fun s => dotO (r.take i) (t.take i) s) = none := h
    show (mulAdd s p q).bind (fun s => dotO r t s) = none
    cases e : mulAdd s p q with
    | none => rfl
    | some z =>
      rw [e] at h
      exact dotO_none h
/-! ### what a call comes to, from a state on: asked so far, the answers left -/
abbrev Fin := List (List Nat) × Option Ans
def fin (qs : List (List Nat)) (l : List (List Nat)) (p : Io) : Fin := (qs ++ (play p l).1, (play p l).2)
theorem fin_ret (qs l : List (List Nat)) (a : Ans) : fin qs l (.ret a) = (qs, some a) := by
  show (qs ++ [], some a) = _
  rw [List.append_nil]
theorem fin_want (qs : List (List Nat)) (x : List Nat) (k : List Nat → Io) : fin qs [] (product x k) = (qs ++ [x], none) := rfl
theorem fin_bad (qs l : List (List Nat)) (x y : List Nat) (k : List Nat → Io) (h : y.all finite = false) : fin qs (y :: l) (product x k) = (qs ++ [x], some (ok (-4))) := by
  show (qs ++ x :: (play (needs y (k y)) l).1, (play (needs y (k y)) l).2) = _
  unfold needs
  rw [h]
  rfl
theorem fin_go (qs l : List (List Nat)) (x y : List Nat) (k : List Nat → Io) (h : y.all finite = true) : fin qs (y :: l) (product x k) = fin (qs ++ [x]) l (k y) := by
  show (qs ++ x :: (play (needs y (k y)) l).1, (play (needs y (k y)) l).2) = (qs ++ [x] ++ (play (k y) l).1, (play (k y) l).2)
  unfold needs
  rw [h, if_pos rfl, List.append_assoc]
  rfl
theorem fin_noN (qs l : List (List Nat)) (k : Nat → Io) : fin qs l (onN none k) = (qs, some (ok (-4))) := fin_ret _ _ _
end Run
namespace Run
open Sv23
/-! ### a run from the questions asked so far on -/
def run (A qs : List (List Nat)) (p : Io) : Fin := fin qs (A.drop qs.length) p
section
variable {A qs : List (List Nat)} {x y : List Nat} {k : List Nat → Io}
theorem run_ret (a : Ans) : run A qs (.ret a) = (qs, some a) := fin_ret _ _ _
theorem run_nil (p : Io) : run A [] p = play p A := by
  show ([] ++ (play p (A.drop 0)).1, (play p (A.drop 0)).2) = play p A
  rw [List.drop_zero, List.nil_append]
theorem run_want (h : A[qs.length]? = none) : run A qs (product x k) = (qs ++ [x], none) := by
  unfold run
  rw [List.drop_eq_nil_of_le (List.getElem?_eq_none_iff.mp h)]
  exact fin_want _ _ _
theorem drop_at (h : A[qs.length]? = some y) : A.drop qs.length = y :: A.drop (qs ++ [x]).length := by
  obtain ⟨h1, h2⟩ := List.getElem?_eq_some_iff.mp h
  rw [List.drop_eq_getElem_cons h1, h2, List.length_append]
  rfl
theorem run_bad (h : A[qs.length]? = some y) (hf : y.all finite = false) : run A qs (product x k) = (qs ++ [x], some (ok (-4))) := by
  unfold run
  rw [drop_at (x := x) h]
  exact fin_bad _ _ _ _ _ hf
theorem run_go (h : A[qs.length]? = some y) (hf : y.all finite = true) : run A qs (product x k) = run A (qs ++ [x]) (k y) := by
  unfold run
  rw [drop_at (x := x) h]
  exact fin_go _ _ _ _ _ hf
theorem run_noN (k : Nat → Io) : run A qs (onN none k) = (qs, some (ok (-4))) := fin_noN _ _ _
theorem run_badN {o : Option Nat} (h : o = none) (k : Nat → Io) : run A qs (onN o k) = (qs, some (ok (-4))) := by rw [h]; exact run_noN k
theorem onN_some {o : Option Nat} {v : Nat} (h : o = some v) (k : Nat → Io) : onN o k = k v := by rw [h]; rfl
end
theorem needs_ok {l : List Nat} (h : l.all finite = true) (k : Io) : needs l k = k := by unfold needs; rw [h, if_pos rfl]
theorem needs_bad {l : List Nat} (h : l.all finite = false) (k : Io) : needs l k = bad := by unfold needs; rw [h, if_neg Bool.false_ne_true]
/-! ### what's told -/
def ansOf : Option Ans → List Int
  | some a => a.v :: Sv23Neutral.whole a.l
  | none => []
def toldOf (F : Fin) : List Int := (F.1.length : Int) :: (Sv23Neutral.whole F.1.flatten ++ ansOf F.2)
theorem whole_flatten : ∀ l : List (List Nat), (l.map Sv23Neutral.whole).flatten = Sv23Neutral.whole l.flatten
  | [] => rfl
  | x :: r => by
    show Sv23Neutral.whole x ++ (r.map Sv23Neutral.whole).flatten = Sv23Neutral.whole (x ++ r.flatten)
    rw [whole_flatten r]
    unfold Sv23Neutral.whole
    rw [List.map_append]
theorem f_told {c : Sv23Neutral.Call} {q : Sv23.Call} {a : List (List Int)} (h : Sv23Neutral.callOf c = some (q, a)) : Sv23Neutral.f c = toldOf (does q (a.map Sv23Neutral.nats)) := by
  unfold Sv23Neutral.f Sv23Neutral.asks
  rw [h]
  dsimp only
  unfold toldOf
  rw [whole_flatten, List.length_map]
  congr 2
/-! ### finite, not below 0 -/
/-! ### sizes, quotients of rows -/
def sizeO (x : List Nat) : Option Nat := (dotO x x 0).bind fun z => some (root z)
structure IsSize (s : Nat) : Prop where
  lt : s < 2 ^ 64
  up : minus s = false
def shrunkO (x : List Nat) (s : Nat) : Option (List Nat) := rowO (fun p q => chk (div p q)) x (x.map fun _ => s)
end Run
namespace Run
open Sv23
/-! ### what's asked of a call -/
def Dbls (l : List Int) : Prop := ∀ z ∈ l, 0 ≤ z ∧ z ≤ 18446744073709551615
theorem double_ok {z : Int} (h : Sv23Neutral.double z = true) : 0 ≤ z ∧ z ≤ 18446744073709551615 := by
  unfold Sv23Neutral.double Sv23Neutral.within at h
  rw [Bool.and_eq_true, decide_eq_true_iff, decide_eq_true_iff] at h
  exact h
theorem dbls_ok {l : List Int} (h : l.all Sv23Neutral.double = true) : Dbls l := fun z hz => double_ok (List.all_eq_true.mp h z hz)
theorem within_ok {n a b : Int} (h1 : a ≤ n) (h2 : n ≤ b) : Sv23Neutral.within n a b = true := by
  unfold Sv23Neutral.within
  rw [decide_eq_true h1, decide_eq_true h2]
  rfl
theorem row_ok {n : Int} {l : List Int} (h : Sv23Neutral.row n l = true) : Dbls l ∧ (1 ≤ n → n ≤ 4096 → (l.length : Int) = n) := by
  unfold Sv23Neutral.row at h
  rw [Bool.and_eq_true, decide_eq_true_iff] at h
  refine ⟨dbls_ok h.1, fun h1 h2 => ?_⟩
  have e := h.2
  rw [within_ok h1 h2, if_pos rfl] at e
  exact e
theorem answers_ok {n : Int} {a : List (List Int)} (h : Sv23Neutral.answers n a = true) : a.length ≤ 100 ∧ ∀ l ∈ a, Dbls l ∧ (l.length : Int) = n := by
  unfold Sv23Neutral.answers at h
  rw [Bool.and_eq_true, decide_eq_true_iff] at h
  refine ⟨h.1, fun l hl => ?_⟩
  have e := List.all_eq_true.mp h.2 l hl
  rw [Bool.and_eq_true, decide_eq_true_iff] at e
  exact ⟨dbls_ok e.1, e.2⟩
theorem few_ok {n b most : Int} (h : Sv23Neutral.few n 1 b most = true) (h1 : 1 ≤ n) (h2 : n ≤ b) : n ≤ most := by
  unfold Sv23Neutral.few at h
  rw [within_ok h1 h2, Bool.or_eq_true, decide_eq_true_iff] at h
  rcases h with h | h
  · cases h
  · exact h
theorem nats_d64 {l : List Int} (h : Dbls l) : D64 (Sv23Neutral.nats l) := fun x hx => by
  obtain ⟨z, hz, rfl⟩ := List.mem_map.mp hx
  have := h z hz
  omega
theorem nats_len (l : List Int) : (Sv23Neutral.nats l).length = l.length := List.length_map ..
theorem rows_ok {n : Int} {m : Nat} {a : List (List Int)} (h : Sv23Neutral.answers n a = true) (e : n = m) : ∀ r ∈ a.map Sv23Neutral.nats, r.length = m ∧ D64 r := fun r hr => by
  obtain ⟨l, hl, rfl⟩ := List.mem_map.mp hr
  obtain ⟨h1, h2⟩ := (answers_ok h).2 l hl
  exact ⟨by rw [nats_len]; omega, nats_d64 h1⟩
theorem even_told (n : Int) (x y : List Int) (a : List (List Int)) : PySv23.even n x y a = toldOf (does (.even n (Sv23Neutral.nats x) (Sv23Neutral.nats y)) (a.map Sv23Neutral.nats)) := f_told rfl
theorem even_ask {n : Int} {x y : List Int} {a : List (List Int)} (h : PySv23.even_asked n x y a = true) : Sv23Neutral.few n 1 4096 64 = true ∧ Sv23Neutral.row n x = true ∧ Sv23Neutral.row n y = true ∧ Sv23Neutral.answers n a = true := by
  have h : (Sv23Neutral.whole32 n && (Sv23Neutral.few n 1 4096 64 && (Sv23Neutral.row n x && (Sv23Neutral.row n y && Sv23Neutral.answers n a)))) = true := h
  simp only [Bool.and_eq_true] at h
  exact h.2
end Run
namespace Kr
open PySem L2
def top (i : Nat) : Stmt := PySem.Challenge.pw_askedproducts_s05_even.main.body.getD i (.Pass ⟨0, 0, 0, 0⟩)
abbrev s_check_finite : Stmt := top 8
abbrev s_mantissa_of : Stmt := top 9
abbrev s_exponent_of : Stmt := top 10
abbrev s_without_low_bits : Stmt := top 11
abbrev s_rounded : Stmt := top 12
abbrev s_signed_mantissa : Stmt := top 13
abbrev s_plus : Stmt := top 14
abbrev s_times : Stmt := top 15
abbrev s_Asking_init : Stmt := inClass (top 25) 0
abbrev s_Asking_ask : Stmt := inClass (top 25) 1
abbrev s_Asking_asked : Stmt := inClass (top 25) 2
abbrev s_row_after_row : Stmt := top 26
abbrev s_told : Stmt := top 27
abbrev s_check_range : Stmt := top 28
abbrev s_check_row : Stmt := top 29
abbrev s_dot : Stmt := top 30
abbrev s_both_products : Stmt := top 31
abbrev s_even : Stmt := top 32
end Kr
set_option Elab.async false
set_option linter.all false
set_option maxRecDepth 100000
set_option maxHeartbeats 2000000
/-! THE PROGRAM, def by def: doubles. -/
namespace Kr
open PySem PySem.Spec PyProof.Rows L2
/-! ### globals -/
def GI (mg : Str → Option Value) (x : Str) (i : Int) : Prop := ∃ t, mg x = some (Value.int i t)
theorem pgi {X : Cx} {x : Str} {i : Int} {pos : Pos} (hg : Gl X x) (h : GI X.mg x i) (hd : (x == ("__debug__" : Str)) = false := by decide) : PE X (.Name x pos) (tC (.int i)) := by
  obtain ⟨t, e⟩ := h
  exact pe_glob hg e ⟨t, rfl⟩ hd
structure Glo (mg : Str → Option Value) : Prop where
  sign : GI mg "SIGN" 9223372036854775808
  inf : GI mg "INFINITE" 9218868437227405312
  frac : GI mg "FRACTION" 4503599627370495
  fbits : GI mg "FRACTION_BITS" 52
  mbits : GI mg "MANTISSA_BITS" 53
  unit : GI mg "UNIT_EXPONENT" 1074
  bmax : mg "max" = none
  bmin : mg "min" = none
  babs : mg "abs" = none
def Cal (P : Program) (w : World) (K : PySem.W.Frag) (mg : Str → Option Value) (base : Heap) (k : Nat) (x : Str) (ps : List Str) (sp : Sp) : Prop :=
  ∃ f fd, mg x = some (.ref f) ∧ PySem.W.keepIn K (.ref f) = true ∧ Binds K fd ps [] ∧ FnOk P w K mg base (CXn P w) k f fd ps sp
theorem pcal {X : Cx} {k : Nat} {x : Str} {ps : List Str} {sp : Sp} {E : XK} {e : Expr} {es : List Expr} {t : TA} {p pos : Pos} (c : Cal X.prog X.w X.K X.mg X.base k x ps sp) (hr : Room k X.A) (hx : Passes (CXn X.prog X.w) X E) (hg : Gl X x) (ha : PA X (e :: es) t)
    (hdb : (x == ("__debug__" : Str)) = false := by decide) (he : starEach (e :: es) X.env = (false, eval e X.env) :: starEach es X.env := by rfl) (hpl : (backTo pos (starEach es X.env)).any (·.1) = false := by rfl) :
    PE X (.Call (.Name x p) (e :: es) [] pos) (tCall sp [] E t) := by
  obtain ⟨f, fd, h1, h2, h3, h4⟩ := c
  exact pe_call h4 hr hg h1 h2 h3 .nil hx ha hdb he hpl
/-! ### numbers -/
theorem band (a b : Nat) : Builtin.bitAnd (a : Int) (b : Int) = ((a &&& b : Nat) : Int) := by
  rw [bitAnd_pp (by omega) (by omega), Int.toNat_natCast, Int.toNat_natCast]
theorem bor (a b : Nat) : Builtin.bitOr (a : Int) (b : Int) = ((a ||| b : Nat) : Int) := by
  rw [Bits.bitOr_pp (by omega) (by omega), Int.toNat_natCast, Int.toNat_natCast]
theorem bxor (a b : Nat) : Builtin.bitXor (a : Int) (b : Int) = ((a ^^^ b : Nat) : Int) := by
  rw [Bits.bitXor_pp (by omega) (by omega), Int.toNat_natCast, Int.toNat_natCast]
theorem decI {i j : Int} : decide (V.int i = V.int j) = decide (i = j) := by
  by_cases h : i = j
  · subst h
    rw [decide_eq_true rfl, decide_eq_true rfl]
  · rw [decide_eq_false h, decide_eq_false fun z => h (V.int.inj z)]
theorem iteI {i j : Int} {A B : Prop} (h1 : i = j → A) (h2 : i ≠ j → B) : if decide (V.int i = V.int j) = true then A else B := by
  rw [decI]
  by_cases h : i = j
  · rw [if_pos (decide_eq_true h)]
    exact h1 h
  · rw [if_neg (by simp [h])]
    exact h2 h
theorem iteD {p : Prop} [Decidable p] {A B : Prop} (h1 : p → A) (h2 : ¬ p → B) : if decide p = true then A else B := by
  by_cases h : p
  · rw [if_pos (decide_eq_true h)]
    exact h1 h
  · rw [if_neg (by simp [h])]
    exact h2 h
theorem b_max : bootBuiltins "max" = some (.builtin "max") := by decide +kernel
theorem b_min : bootBuiltins "min" = some (.builtin "min") := by decide +kernel
theorem b_abs : bootBuiltins "abs" = some (.builtin "abs") := by decide +kernel
theorem b_len : bootBuiltins "len" = some (.builtin "len") := by decide +kernel
theorem npow (k : Nat) : (2 : Int) ^ k = ((2 ^ k : Nat) : Int) := by rw [Int.natCast_pow]; rfl
/-! ### what each def promises -/
def spFin (NF : Value) : Sp := fun vs H Q E => ∃ x : Nat, vs = [.int x] ∧ if Sv23.finite x = true then Q .non H else E NF none H
def sp1 (f : Nat → V) : Sp := fun vs H Q _ => ∃ x : Nat, x < 2 ^ 64 ∧ vs = [.int x] ∧ Q (f x) H
def sp2 (NF : Value) (f : Nat → Nat → Nat) : Sp := fun vs H Q E => ∃ x y : Nat, x < 2 ^ 64 ∧ y < 2 ^ 64 ∧ vs = [.int x, .int y] ∧ if Sv23.finite (f x y) = true then Q (.int (f x y : Nat)) H else E NF none H
def spNear : Sp := fun vs H Q _ => ∃ m d : Nat, 0 < d ∧ d ≤ 10000 ∧ vs = [.int m, .int d] ∧ Q (.int (Sv23.nearest m d : Nat)) H
def spRnd (NF : Value) : Sp := fun vs H Q E => ∃ (s : Bool) (m : Nat) (e : Int), m.log2 ≤ 6000 ∧ -4000 ≤ e ∧ e ≤ 4000 ∧ vs = [.int (Sv23.signed s 0 : Nat), .int m, .int e] ∧ if Sv23.finite (Dbl.rnd s m e) = true then Q (.int (Dbl.rnd s m e : Nat)) H else E NF none H
def spOver (NF : Value) : Sp := fun vs H Q E => ∃ x y : Nat, x < 2 ^ 64 ∧ y < 2 ^ 64 ∧ Sv23.zero y = false ∧ vs = [.int x, .int y] ∧ if Sv23.finite (Sv23.div x y) = true then Q (.int (Sv23.div x y : Nat)) H else E NF none H
def spAbove : Sp := fun vs H Q _ => ∃ x y : Nat, x < 2 ^ 64 ∧ y < 2 ^ 64 ∧ vs = [.int x, .int y] ∧ Q (.bl (Sv23.less y x)) H
section
variable {P : Program} {w : World} {K : PySem.W.Frag} {mg : Str → Option Value} {base : Heap} {f : Addr} {fd : FuncData}
/-! ### one theorem a def -/
theorem sc_fin : FnScope ["bits"] ["bits"] (defScope s_check_finite) := ⟨rfl, rfl, rfl, by decide +kernel, rfl, by decide +kernel, by decide +kernel⟩
theorem ok_fin {C : Addr} (F : Fun K "check_finite" "check_finite" s_check_finite f fd) (G : Glo mg) (T : ExcC K mg "NotFinite" C) : FnOk P w K mg base (CXn P w) 1 f fd ["bits"] (spFin (.ref C)) := by
  refine F.okN sc_fin (fun vs H Q E h => ?_) (fun cdv A outer s H vs Q E hr h => ?_)
  · obtain ⟨x, rfl, _⟩ := h
    rfl
  · obtain ⟨x, rfl, h⟩ := h
    refine ⟨_, pss_one (ps_if (pt_cmpR op_eq (pe_op op_and (pv 0) (pgi rfl G.inf)) (pgi rfl G.inf) (nomark _)) (pss_one (ps_raise rfl rfl T madeN)) pss_nil), ?_⟩
    have e : Builtin.bitAnd (x : Int) 9218868437227405312 = ((x &&& 9218868437227405312 : Nat) : Int) := band x 9218868437227405312
    refine ⟨_, rfl, _, _, rfl, rfl, rfl, _, rfl, iteI (fun z => ?_) fun z => ?_⟩
    · rw [e] at z
      have z' : x &&& 9218868437227405312 = 9218868437227405312 := by omega
      rw [if_neg fun q => Dbl.finite_iff.mp q z'] at h
      exact h
    · rw [e] at z
      rw [if_pos (Dbl.finite_iff.mpr fun q => z (by rw [q]; rfl))] at h
      exact h
theorem sc_man : FnScope ["bits"] ["bits"] (defScope s_mantissa_of) := ⟨rfl, rfl, rfl, by decide +kernel, rfl, by decide +kernel, by decide +kernel⟩
theorem ok_man (F : Fun K "mantissa_of" "mantissa_of" s_mantissa_of f fd) (G : Glo mg) : FnOk P w K mg base (CXn P w) 1 f fd ["bits"] (sp1 fun x => .int (Sv23.units x : Nat)) := by
  refine F.okN sc_man (fun vs H Q E h => ?_) (fun cdv A outer s H vs Q E hr h => ?_)
  · obtain ⟨x, _, rfl, _⟩ := h
    rfl
  · obtain ⟨x, hx, rfl, h⟩ := h
    refine ⟨_, pss_cons (ps_if (pt_cmpR op_eq (pe_op op_and (pv 0) (pgi rfl G.inf)) pe_int (nomark _)) (pss_one (ps_ret (pe_op op_and (pv 0) (pgi rfl G.frac)))) pss_nil)
      (pss_one (ps_ret (pe_op op_add (pe_op op_add (pe_op op_and (pv 0) (pgi rfl G.frac)) (pgi rfl G.frac)) pe_int))), ?_⟩
    have e : Builtin.bitAnd (x : Int) 9218868437227405312 = ((x &&& 9218868437227405312 : Nat) : Int) := band x 9218868437227405312
    have e2 : Builtin.bitAnd (x : Int) 4503599627370495 = ((x &&& 4503599627370495 : Nat) : Int) := band x 4503599627370495
    refine ⟨_, rfl, _, _, rfl, rfl, rfl, _, rfl, iteI (fun z => ?_) fun z => ?_⟩
    · refine ⟨_, rfl, _, _, rfl, rfl, ?_⟩
      rw [e] at z
      dsimp only
      rw [e2, ← Dbl.units_small (by omega)]
      exact h
    · refine ⟨_, rfl, _, _, rfl, rfl, _, _, rfl, rfl, _, _, rfl, rfl, ?_⟩
      rw [e] at z
      have u := Dbl.units_big (x := x) (by omega)
      have q : Builtin.bitAnd (x : Int) 4503599627370495 + 4503599627370495 + 1 = ((Sv23.units x : Nat) : Int) := by
        rw [e2, u]
        omega
      dsimp only
      rw [q]
      exact h
theorem sc_exp : FnScope ["bits"] ["bits"] (defScope s_exponent_of) := ⟨rfl, rfl, rfl, by decide +kernel, rfl, by decide +kernel, by decide +kernel⟩
theorem ok_exp (F : Fun K "exponent_of" "exponent_of" s_exponent_of f fd) (G : Glo mg) : FnOk P w K mg base (CXn P w) 1 f fd ["bits"] (sp1 fun x => .int (Dbl.ex x : Nat)) := by
  refine F.okN sc_exp (fun vs H Q E h => ?_) (fun cdv A outer s H vs Q E hr h => ?_)
  · obtain ⟨x, _, rfl, _⟩ := h
    rfl
  · obtain ⟨x, hx, rfl, h⟩ := h
    refine ⟨_, pss_one (ps_ret (pe_op op_sub (pe_callB (call_max2 rfl) (by rfl) G.bmax b_max (pa_cons (pe_op op_shr (pe_op op_and (pv 0) (pgi rfl G.inf)) (pgi rfl G.fbits)) (pa_cons pe_int pa_nil))) pe_int)), ?_⟩
    have e : Builtin.bitAnd (x : Int) 9218868437227405312 = ((x &&& 9218868437227405312 : Nat) : Int) := band x 9218868437227405312
    refine ⟨_, rfl, _, _, rfl, rfl, _, _, rfl, rfl, (by show (0 : Int) ≤ 52; decide), _, _, rfl, _, _, rfl, rfl, ?_⟩
    have q : (if (1 : Int) > Builtin.bitAnd (x : Int) 9218868437227405312 / 2 ^ (52 : Int).toNat then (1 : Int) else Builtin.bitAnd (x : Int) 9218868437227405312 / 2 ^ (52 : Int).toNat) - 1 = ((Dbl.ex x : Nat) : Int) := by
      rw [e, Dbl.and_inf]
      have m := Dbl.mag_div x
      unfold Dbl.ex
      rw [m]
      show (if (1 : Int) > ((x / 2 ^ 52 % 2 ^ 11 * 2 ^ 52 : Nat) : Int) / 4503599627370496 then (1 : Int) else ((x / 2 ^ 52 % 2 ^ 11 * 2 ^ 52 : Nat) : Int) / 4503599627370496) - 1 = _
      split <;> omega
    dsimp only
    rw [q]
    exact h
theorem sc_wlb : FnScope ["mantissa", "dropped", "half", "rest", "kept"] ["mantissa", "dropped"] (defScope s_without_low_bits) := ⟨rfl, rfl, rfl, by decide +kernel, rfl, by decide +kernel, by decide +kernel⟩
theorem ok_wlb (F : Fun K "without_low_bits" "without_low_bits" s_without_low_bits f fd) : FnOk P w K mg base (CXn P w) 1 f fd ["mantissa", "dropped"] spNear := by
  refine F.okN sc_wlb (fun vs H Q E h => ?_) (fun cdv A outer s H vs Q E hr h => ?_)
  · obtain ⟨m, d, _, _, rfl, _⟩ := h
    rfl
  · obtain ⟨m, d, hd, hd2, rfl, h⟩ := h
    refine ⟨_, pss_cons (ps_set (i := 2) sc_wlb.nd rfl (Or.inl rfl) (pe_op op_shl pe_int (pe_op op_sub (pv 1) pe_int)))
      (pss_cons (ps_set (i := 3) sc_wlb.nd rfl (Or.inl rfl) (pe_op op_and (pv 0) (pe_op op_sub (pe_op op_add (pv 2) (pv 2)) pe_int)))
      (pss_cons (ps_set (i := 4) sc_wlb.nd rfl (Or.inl rfl) (pe_op op_shr (pv 0) (pv 1)))
      (pss_cons (ps_if (pw_or (pt_cmpR op_gt (pv 3) (pv 2) (nomark _)) (pw_or1 (pw_and (pt_cmpR op_eq (pv 3) (pv 2) (nomark _)) (pw_and1 (pt_cmpR op_eq (pe_op op_and (pv 4) pe_int) pe_int (nomark _)))).pt)).pt (pss_one (ps_ret (pe_op op_add (pv 4) pe_int))) pss_nil)
      (pss_one (ps_ret (pv 4)))))), ?_⟩
    have e1 : (1 : Int) * 2 ^ ((d : Int) - 1).toNat = ((2 ^ (d - 1) : Nat) : Int) := by
      rw [Int.one_mul, npow]
      congr 2
      omega
    have e2 : ((2 ^ (d - 1) : Nat) : Int) + ((2 ^ (d - 1) : Nat) : Int) - 1 = ((2 ^ d - 1 : Nat) : Int) := by
      have := Dbl.two_pow_pred hd
      have p : 0 < 2 ^ (d - 1) := Nat.two_pow_pos _
      omega
    have e3 : Builtin.bitAnd (m : Int) ((2 ^ d - 1 : Nat) : Int) = ((m % 2 ^ d : Nat) : Int) := by rw [band, Nat.and_two_pow_sub_one_eq_mod]
    have e4 : (m : Int) / 2 ^ (d : Int).toNat = ((m / 2 ^ d : Nat) : Int) := by
      rw [Int.toNat_natCast, npow, Int.natCast_ediv]
    have e5 : Builtin.bitAnd ((m / 2 ^ d : Nat) : Int) 1 = ((m / 2 ^ d % 2 : Nat) : Int) := by
      have q := band (m / 2 ^ d) 1
      rw [show (m / 2 ^ d) &&& 1 = m / 2 ^ d % 2 from Nat.and_two_pow_sub_one_eq_mod _ 1] at q
      exact q
    refine ⟨_, rfl, _, _, rfl, rfl, _, _, rfl, rfl, ⟨by omega, by omega, by decide⟩, ?_⟩
    dsimp only
    rw [e1]
    refine ⟨_, rfl, _, rfl, _, rfl, _, _, rfl, rfl, _, _, rfl, rfl, _, _, rfl, rfl, ?_⟩
    dsimp only
    rw [e2, e3]
    refine ⟨_, rfl, _, rfl, _, _, rfl, rfl, by omega, ?_⟩
    dsimp only
    rw [e4]
    have n := Dbl.nearest_by m hd
    refine ⟨_, rfl, _, rfl, _, _, rfl, rfl, _, rfl, iteD (fun z => ?_) fun z => ?_⟩
    · refine iteT ?_
      refine ⟨_, rfl, _, _, rfl, rfl, ?_⟩
      rw [if_pos (.inl (by omega))] at n
      rw [n] at h
      exact h
    · refine ⟨_, rfl, _, rfl, rfl, _, rfl, iteI (fun z2 => ?_) fun z2 => ?_⟩
      · refine ⟨_, rfl, _, _, rfl, rfl, rfl, _, rfl, iteI (fun z3 => ?_) fun z3 => ?_⟩
        · rw [e5] at z3
          refine ⟨_, rfl, _, _, rfl, rfl, ?_⟩
          rw [if_pos (.inr ⟨by omega, by omega⟩)] at n
          rw [n] at h
          exact h
        · rw [e5] at z3
          refine ⟨_, rfl, ?_⟩
          rw [if_neg (by omega)] at n
          rw [n] at h
          exact h
      · refine iteF ?_
        refine ⟨_, rfl, ?_⟩
        rw [if_neg (by omega)] at n
        rw [n] at h
        exact h
theorem sc_rnd : FnScope ["sign", "mantissa", "exponent", "dropped", "kept", "bits"] ["sign", "mantissa", "exponent"] (defScope s_rounded) := ⟨rfl, rfl, rfl, by decide +kernel, rfl, by decide +kernel, by decide +kernel⟩
theorem fin_rnd {s : Bool} {m : Nat} {e : Int} (hm : 0 < m) : (Sv23.finite (Dbl.rnd s m e) = true ↔ Dbl.bits m e < 9218868437227405312) ∧ (Dbl.bits m e < 9218868437227405312 → Dbl.rnd s m e = Sv23.signed s (Dbl.bits m e).toNat) := by
  have c := Dbl.coded_bits hm e
  have l := Dbl.coded_lt m (e - 1074)
  have n := Dbl.bits_nonneg m e
  have hi : Sv23.infinity = 9218868437227405312 := rfl
  unfold Dbl.rnd
  rw [if_neg (by omega)]
  rw [Dbl.finite_signed l, decide_eq_true_iff]
  rw [hi] at c
  refine ⟨?_, fun z => ?_⟩
  · show Sv23.coded m (e - 1074) < 9218868437227405312 ↔ _
    omega
  · congr 1
    omega
theorem ok_rnd {C : Addr} (F : Fun K "rounded" "rounded" s_rounded f fd) (G : Glo mg) (T : ExcC K mg "NotFinite" C) (c1 : Cal P w K mg base 1 "without_low_bits" ["mantissa", "dropped"] spNear) : FnOk P w K mg base (CXn P w) 2 f fd ["sign", "mantissa", "exponent"] (spRnd (.ref C)) := by
  refine F.okN sc_rnd (fun vs H Q E h => ?_) (fun cdv A outer s H vs Q E hr h => ?_)
  · obtain ⟨b, m, e, _, _, _, rfl, _⟩ := h
    rfl
  · obtain ⟨b, m, e, hm, he1, he2, rfl, h⟩ := h
    refine ⟨_, pss_cons (ps_if (pt_cmpR op_eq (pv 1) pe_int (nomark _)) (pss_one (ps_ret (pv 0))) pss_nil)
      (pss_cons (ps_set (i := 3) sc_rnd.nd rfl (Or.inl rfl) (pe_callB (call_max2 rfl) (by rfl) G.bmax b_max (pa_cons (pe_op op_sub (pe_bm0 PySem.F.plainAttrs_int PySem.F.slot_int_bit_length PySem.F.type_int_bit_length mt_bitlen (pv 1)) (pgi rfl G.mbits)) (pa_cons (pe_un un_neg (pv 2)) pa_nil))))
      (pss_cons (ps_if (pt_cmpR op_gt (pv 3) pe_int (nomark _)) (pss_one (ps_set (i := 4) sc_rnd.nd rfl (Or.inl rfl) (pcal c1 hr passN rfl (pa_cons (pv 1) (pa_cons (pv 3) pa_nil)))))
        (pss_one (ps_set (i := 4) sc_rnd.nd rfl (Or.inl rfl) (pe_op op_shl (pv 1) (pe_un un_neg (pv 3))))))
      (pss_cons (ps_set (i := 5) sc_rnd.nd rfl (Or.inl rfl) (pe_op op_add (pe_op op_shl (pe_op op_add (pv 2) (pv 3)) (pgi rfl G.fbits)) (pv 4)))
      (pss_cons (ps_if (pt_cmpR op_ge (pv 5) (pgi rfl G.inf) (nomark _)) (pss_one (ps_raise rfl rfl T madeN)) pss_nil)
      (pss_one (ps_ret (pe_op op_or (pv 0) (pv 5)))))))), ?_⟩
    refine ⟨_, rfl, rfl, _, rfl, iteI (fun z => ?_) fun z => ?_⟩
    · have z' : m = 0 := by omega
      subst z'
      refine ⟨_, rfl, ?_⟩
      have e0 : Dbl.rnd b 0 e = Sv23.signed b 0 := rfl
      rw [e0, if_pos (by rw [Dbl.finite_signed (by decide)]; decide)] at h
      exact h
    · have hm0 : 0 < m := by omega
      have hb : Builtin.Int.intBits (m : Int) = m.log2 + 1 := by
        unfold Builtin.Int.intBits
        rw [if_neg (by simp; omega), Int.natAbs_natCast]
      refine ⟨_, rfl, rfl, _, rfl, rfl, _, _, rfl, rfl, _, rfl, _, rfl, _, _, rfl, ?_⟩
      dsimp only
      rw [hb]
      have hd : (if -e > ((m.log2 + 1 : Nat) : Int) - 53 then -e else ((m.log2 + 1 : Nat) : Int) - 53) = Dbl.dropped m e := by
        unfold Dbl.dropped
        split <;> omega
      rw [hd]
      have dge := Dbl.dropped_ge m e
      have dle : Dbl.dropped m e ≤ 6000 := by unfold Dbl.dropped; omega
      have dlo : ((m.log2 : Nat) : Int) + 1 - 53 ≤ Dbl.dropped m e := by unfold Dbl.dropped; omega
      obtain ⟨f1, f2⟩ := fin_rnd (s := b) (e := e) hm0
      have bn := Dbl.bits_nonneg m e
      -- behind the if
      have rest : ∀ kp : Int, kp = (Dbl.kept m e : Nat) → ∀ D : Ends, D = { nx := fun _ H' => Q .non H', rt := Q } →
          tSeq (tAsg (tOp (rI0 fun i j => .int (i + j)) (tOp (rI CPow fun i j => .int (i * 2 ^ j.toNat)) (tOp (rI0 fun i j => .int (i + j)) (tVar 2) (tVar 3)) (tC (.int 52))) (tVar 4)) (gName 5))
            (tSeq (tIfS (tTest (tOp (rI0 fun i j => .bl (decide (j ≤ i))) (tVar 5) (tC (.int 9218868437227405312)))) (tRaise E C) tNext) (tRet (tOp (rI0 fun i j => .int (Builtin.bitOr i j)) (tVar 0) (tVar 5)))) D
            [some (.int (Sv23.signed b 0 : Nat)), some (.int m), some (.int e), some (.int (Dbl.dropped m e)), some (.int kp), none] H := by
        rintro kp rfl D rfl
        refine ⟨_, rfl, _, rfl, _, _, rfl, rfl, _, _, rfl, rfl, ⟨by decide, by decide, by omega⟩, _, rfl, _, _, rfl, rfl, ?_⟩
        have e1 : (e + Dbl.dropped m e) * 2 ^ (52 : Int).toNat + ((Dbl.kept m e : Nat) : Int) = Dbl.bits m e := rfl
        dsimp only
        rw [e1]
        refine ⟨_, rfl, _, _, rfl, rfl, _, rfl, iteD (fun z2 => ?_) fun z2 => ?_⟩
        · rw [if_neg (fun q => by have := f1.mp q; omega)] at h
          exact h
        · refine ⟨_, rfl, _, rfl, _, _, rfl, rfl, ?_⟩
          have lt : Dbl.bits m e < 9218868437227405312 := by omega
          rw [if_pos (f1.mpr lt), f2 lt] at h
          have e2 : Builtin.bitOr ((Sv23.signed b 0 : Nat) : Int) (Dbl.bits m e) = ((Sv23.signed b (Dbl.bits m e).toNat : Nat) : Int) := by
            have q : Dbl.bits m e = (((Dbl.bits m e).toNat : Nat) : Int) := by omega
            rw [q, bor, Int.toNat_natCast, Dbl.or_sign (by omega)]
          dsimp only
          rw [e2]
          exact h
      refine ⟨_, rfl, _, _, rfl, rfl, _, rfl, iteD (fun z2 => ?_) fun z2 => ?_⟩
      · refine ⟨_, rfl, _, rfl, m, (Dbl.dropped m e).toNat, by omega, by omega, ?_, ?_⟩
        · show [V.int (m : Int), V.int (Dbl.dropped m e)] = [V.int (m : Int), V.int (((Dbl.dropped m e).toNat : Nat) : Int)]
          rw [Int.toNat_of_nonneg (by omega)]
        · refine rest _ ?_ _ rfl
          unfold Dbl.kept
          rw [if_pos z2]
      · have m53 : m < 2 ^ 53 := (Nat.log2_lt (by omega)).mp (by omega)
        refine ⟨_, rfl, _, rfl, _, rfl, _, _, rfl, rfl, ⟨by omega, by omega, by omega⟩, ?_⟩
        refine rest _ ?_ _ rfl
        unfold Dbl.kept
        rw [if_neg z2, npow, ← Int.natCast_mul]
end
end Kr
set_option Elab.async false
set_option linter.all false
set_option maxRecDepth 100000
set_option maxHeartbeats 2000000
namespace Kr
open PySem PySem.Spec PyProof.Rows L2
section
variable {P : Program} {w : World} {K : PySem.W.Frag} {mg : Str → Option Value} {base : Heap} {f : Addr} {fd : FuncData}
abbrev cMan (P : Program) (w : World) (K : PySem.W.Frag) (mg : Str → Option Value) (base : Heap) : Prop := Cal P w K mg base 1 "mantissa_of" ["bits"] (sp1 fun x => .int (Sv23.units x : Nat))
abbrev cExp (P : Program) (w : World) (K : PySem.W.Frag) (mg : Str → Option Value) (base : Heap) : Prop := Cal P w K mg base 1 "exponent_of" ["bits"] (sp1 fun x => .int (Dbl.ex x : Nat))
abbrev cSm (P : Program) (w : World) (K : PySem.W.Frag) (mg : Str → Option Value) (base : Heap) : Prop := Cal P w K mg base 2 "signed_mantissa" ["bits"] (sp1 fun x => .int (Sv23.amount x))
abbrev cNeg (P : Program) (w : World) (K : PySem.W.Frag) (mg : Str → Option Value) (base : Heap) : Prop := Cal P w K mg base 1 "negated" ["bits"] (sp1 fun x => .int (Sv23.neg x : Nat))
abbrev cRnd (P : Program) (w : World) (K : PySem.W.Frag) (mg : Str → Option Value) (base : Heap) (NF : Value) : Prop := Cal P w K mg base 2 "rounded" ["sign", "mantissa", "exponent"] (spRnd NF)
abbrev cPlus (P : Program) (w : World) (K : PySem.W.Frag) (mg : Str → Option Value) (base : Heap) (NF : Value) : Prop := Cal P w K mg base 3 "plus" ["left", "right"] (sp2 NF Sv23.add)
abbrev cOrd (P : Program) (w : World) (K : PySem.W.Frag) (mg : Str → Option Value) (base : Heap) : Prop := Cal P w K mg base 1 "ordered" ["bits"] (sp1 fun x => .int (Dbl.ord x))
theorem sc_sm : FnScope ["bits"] ["bits"] (defScope s_signed_mantissa) := ⟨rfl, rfl, rfl, by decide +kernel, rfl, by decide +kernel, by decide +kernel⟩
theorem ok_sm (F : Fun K "signed_mantissa" "signed_mantissa" s_signed_mantissa f fd) (G : Glo mg) (c1 : cMan P w K mg base) : FnOk P w K mg base (CXn P w) 2 f fd ["bits"] (sp1 fun x => .int (Sv23.amount x)) := by
  refine F.okN sc_sm (fun vs H Q E h => ?_) (fun cdv A outer s H vs Q E hr h => ?_)
  · obtain ⟨x, _, rfl, _⟩ := h
    rfl
  · obtain ⟨x, hx, rfl, h⟩ := h
    refine ⟨_, pss_cons (ps_if (pt_cmpR op_eq (pe_op op_and (pv 0) (pgi rfl G.sign)) (pgi rfl G.sign) (nomark _)) (pss_one (ps_ret (pe_un un_neg (pcal c1 hr passN rfl (pa_cons (pv 0) pa_nil))))) pss_nil)
      (pss_one (ps_ret (pcal c1 hr passN rfl (pa_cons (pv 0) pa_nil)))), ?_⟩
    have e : Builtin.bitAnd (x : Int) 9223372036854775808 = ((Sv23.signed (Sv23.minus x) 0 : Nat) : Int) := by
      rw [← Dbl.sign_if hx]
      exact band x 9223372036854775808
    refine ⟨_, rfl, _, _, rfl, rfl, rfl, _, rfl, iteI (fun z => ?_) fun z => ?_⟩
    · rw [e] at z
      refine ⟨_, rfl, x, hx, rfl, _, rfl, ?_⟩
      have m : Sv23.minus x = true := by
        cases q : Sv23.minus x with
        | true => rfl
        | false =>
          rw [q] at z
          cases z
      have a : Sv23.amount x = -((Sv23.units x : Nat) : Int) := by
        unfold Sv23.amount
        rw [if_pos m]
      dsimp only at h
      rw [a] at h
      exact h
    · rw [e] at z
      refine ⟨_, rfl, x, hx, rfl, ?_⟩
      have m : ¬ Sv23.minus x = true := fun q => z (by rw [q]; rfl)
      have a : Sv23.amount x = ((Sv23.units x : Nat) : Int) := by
        unfold Sv23.amount
        rw [if_neg m]
      dsimp only at h
      rw [a] at h
      exact h
theorem amount_abs (x : Nat) : (Sv23.amount x).natAbs < 2 ^ 53 := by
  have u := Dbl.units_lt x
  unfold Sv23.amount
  split <;> omega
theorem log2_le {m n : Nat} (h : m < 2 ^ (n + 1)) : m.log2 ≤ n := by
  by_cases h0 : m = 0
  · subst h0
    have e : Nat.log2 0 = 0 := by decide
    omega
  · have := (Nat.log2_lt h0).mpr h
    omega
theorem whole_abs (x y : Nat) : (Dbl.whole x y).natAbs.log2 ≤ 6000 := by
  have ax := amount_abs x
  have ay := amount_abs y
  have lx := Dbl.ex_lt x
  have ly := Dbl.ex_lt y
  have k : ∀ (a : Int) (j : Nat), a.natAbs < 2 ^ 53 → j ≤ 2046 → (a * 2 ^ j).natAbs < 2 ^ 2099 := fun a j ha hj => by
    rw [Int.natAbs_mul, npow, Int.natAbs_natCast]
    calc a.natAbs * 2 ^ j < 2 ^ 53 * 2 ^ j := Nat.mul_lt_mul_of_pos_right ha (Nat.two_pow_pos _)
      _ ≤ 2 ^ 53 * 2 ^ 2046 := Nat.mul_le_mul_left _ (Nat.pow_le_pow_right (by decide) hj)
      _ = 2 ^ 2099 := by rw [← Nat.pow_add]
  have k1 := k (Sv23.amount x) (Dbl.ex x - min (Dbl.ex x) (Dbl.ex y)) ax (by omega)
  have k2 := k (Sv23.amount y) (Dbl.ex y - min (Dbl.ex x) (Dbl.ex y)) ay (by omega)
  have s : (Dbl.whole x y).natAbs < 2 ^ 2100 := by
    unfold Dbl.whole
    refine Nat.lt_of_le_of_lt (Int.natAbs_add_le _ _) ?_
    have e : 2 ^ 2100 = 2 ^ 2099 + 2 ^ 2099 := by rw [← Nat.two_mul, ← Nat.pow_succ']
    rw [e]
    omega
  exact Nat.le_trans (log2_le (n := 2099) s) (by decide)
theorem natAbs_if (i : Int) : (if i < 0 then -i else i) = ((i.natAbs : Nat) : Int) := by split <;> omega
theorem sc_plus : FnScope ["left", "right", "exponent", "whole"] ["left", "right"] (defScope s_plus) := ⟨rfl, rfl, rfl, by decide +kernel, rfl, by decide +kernel, by decide +kernel⟩
theorem ok_plus {NF : Value} (F : Fun K "plus" "plus" s_plus f fd) (G : Glo mg) (c1 : cExp P w K mg base) (c2 : cSm P w K mg base) (c3 : cRnd P w K mg base NF) : FnOk P w K mg base (CXn P w) 3 f fd ["left", "right"] (sp2 NF Sv23.add) := by
  refine F.okN sc_plus (fun vs H Q E h => ?_) (fun cdv A outer s H vs Q E hr h => ?_)
  · obtain ⟨x, y, _, _, rfl, _⟩ := h
    rfl
  · obtain ⟨x, y, hx, hy, rfl, h⟩ := h
    have hr1 : Room 1 _ := hr.mono (by decide)
    refine ⟨_, pss_cons (ps_set (i := 2) sc_plus.nd rfl (Or.inl rfl) (pe_callB (call_min2 rfl) (by rfl) G.bmin b_min (pa_cons (pcal c1 hr1 passN rfl (pa_cons (pv 0) pa_nil)) (pa_cons (pcal c1 hr1 passN rfl (pa_cons (pv 1) pa_nil)) pa_nil))))
      (pss_cons (ps_set (i := 3) sc_plus.nd rfl (Or.inl rfl) (pe_op op_shl (pcal c2 hr passN rfl (pa_cons (pv 0) pa_nil)) (pe_op op_sub (pcal c1 hr1 passN rfl (pa_cons (pv 0) pa_nil)) (pv 2))))
      (pss_cons (ps_set (i := 3) sc_plus.nd rfl (Or.inl rfl) (pe_op op_add (pv 3) (pe_op op_shl (pcal c2 hr passN rfl (pa_cons (pv 1) pa_nil)) (pe_op op_sub (pcal c1 hr1 passN rfl (pa_cons (pv 1) pa_nil)) (pv 2)))))
      (pss_cons (ps_if (pt_cmpR op_eq (pv 3) pe_int (nomark _)) (pss_one (ps_ret (pe_op op_and (pe_op op_and (pv 0) (pv 1)) (pgi rfl G.sign)))) pss_nil)
      (pss_one (ps_ret (pcal c3 hr passN rfl (pa_cons (pe_ifExp (pt_cmpR op_lt (pv 3) pe_int (nomark _)) (pgi rfl G.sign) pe_int) (pa_cons (pe_callB call_abs (by rfl) G.babs b_abs (pa_cons (pv 3) pa_nil)) (pa_cons (pv 2) pa_nil))))))))), ?_⟩
    have lx := Dbl.ex_lt x
    have ly := Dbl.ex_lt y
    have ax := amount_abs x
    have ay := amount_abs y
    refine ⟨_, rfl, x, hx, rfl, _, rfl, y, hy, rfl, _, _, rfl, ?_⟩
    have e1 : (if ((Dbl.ex y : Nat) : Int) < ((Dbl.ex x : Nat) : Int) then ((Dbl.ex y : Nat) : Int) else ((Dbl.ex x : Nat) : Int)) = ((min (Dbl.ex x) (Dbl.ex y) : Nat) : Int) := by split <;> omega
    dsimp only
    rw [e1]
    refine ⟨_, rfl, x, hx, rfl, _, rfl, x, hx, rfl, _, rfl, _, _, rfl, rfl, _, _, rfl, rfl, ⟨by omega, by omega, by omega⟩, ?_⟩
    have e2 : (((Dbl.ex x : Nat) : Int) - ((min (Dbl.ex x) (Dbl.ex y) : Nat) : Int)).toNat = Dbl.ex x - min (Dbl.ex x) (Dbl.ex y) := by omega
    have e3 : (((Dbl.ex y : Nat) : Int) - ((min (Dbl.ex x) (Dbl.ex y) : Nat) : Int)).toNat = Dbl.ex y - min (Dbl.ex x) (Dbl.ex y) := by omega
    dsimp only
    rw [e2]
    refine ⟨_, rfl, _, rfl, y, hy, rfl, _, rfl, y, hy, rfl, _, rfl, _, _, rfl, rfl, _, _, rfl, rfl, ⟨by omega, by omega, by omega⟩, _, _, rfl, rfl, ?_⟩
    dsimp only
    rw [e3]
    have e4 : Sv23.amount x * 2 ^ (Dbl.ex x - min (Dbl.ex x) (Dbl.ex y)) + Sv23.amount y * 2 ^ (Dbl.ex y - min (Dbl.ex x) (Dbl.ex y)) = Dbl.whole x y := rfl
    rw [e4]
    have a := Dbl.add_eq (x := x) (y := y)
    have lw := whole_abs x y
    refine ⟨_, rfl, rfl, _, rfl, iteI (fun z => ?_) fun z => ?_⟩
    · refine ⟨_, rfl, _, rfl, _, _, rfl, rfl, _, _, rfl, rfl, ?_⟩
      rw [if_pos z] at a
      have e5 : Builtin.bitAnd (Builtin.bitAnd (x : Int) (y : Int)) 9223372036854775808 = ((Sv23.add x y : Nat) : Int) := by
        rw [a, ← Dbl.and_sign2 hx hy, band]
        exact band (x &&& y) 9223372036854775808
      rw [if_pos (by rw [a, Dbl.finite_signed (by decide)]; decide)] at h
      dsimp only
      rw [e5]
      exact h
    · rw [if_neg z] at a
      refine ⟨_, rfl, _, _, rfl, rfl, _, rfl, iteD (fun z2 => ?_) fun z2 => ?_⟩
      · refine ⟨_, rfl, _, rfl, _, rfl, true, (Dbl.whole x y).natAbs, ((min (Dbl.ex x) (Dbl.ex y) : Nat) : Int), lw, by omega, by omega, ?_, ?_⟩
        · show [V.int 9223372036854775808, V.int (if Dbl.whole x y < 0 then -Dbl.whole x y else Dbl.whole x y), V.int ((min (Dbl.ex x) (Dbl.ex y) : Nat) : Int)] = _
          rw [natAbs_if]
          rfl
        · rw [decide_eq_true z2] at a
          rw [← a]
          exact h
      · refine ⟨_, rfl, _, rfl, _, rfl, false, (Dbl.whole x y).natAbs, ((min (Dbl.ex x) (Dbl.ex y) : Nat) : Int), lw, by omega, by omega, ?_, ?_⟩
        · show [V.int 0, V.int (if Dbl.whole x y < 0 then -Dbl.whole x y else Dbl.whole x y), V.int ((min (Dbl.ex x) (Dbl.ex y) : Nat) : Int)] = _
          rw [natAbs_if]
          rfl
        · rw [decide_eq_false z2] at a
          rw [← a]
          exact h
theorem sc_times : FnScope ["left", "right", "exponent"] ["left", "right"] (defScope s_times) := ⟨rfl, rfl, rfl, by decide +kernel, rfl, by decide +kernel, by decide +kernel⟩
theorem ok_times {NF : Value} (F : Fun K "times" "times" s_times f fd) (G : Glo mg) (c1 : cExp P w K mg base) (c2 : cMan P w K mg base) (c3 : cRnd P w K mg base NF) : FnOk P w K mg base (CXn P w) 3 f fd ["left", "right"] (sp2 NF Sv23.mul) := by
  refine F.okN sc_times (fun vs H Q E h => ?_) (fun cdv A outer s H vs Q E hr h => ?_)
  · obtain ⟨x, y, _, _, rfl, _⟩ := h
    rfl
  · obtain ⟨x, y, hx, hy, rfl, h⟩ := h
    have hr1 : Room 1 _ := hr.mono (by decide)
    refine ⟨_, pss_cons (ps_set (i := 2) sc_times.nd rfl (Or.inl rfl) (pe_op op_sub (pe_op op_add (pcal c1 hr1 passN rfl (pa_cons (pv 0) pa_nil)) (pcal c1 hr1 passN rfl (pa_cons (pv 1) pa_nil))) (pgi rfl G.unit)))
      (pss_one (ps_ret (pcal c3 hr passN rfl (pa_cons (pe_op op_and (pe_op op_xor (pv 0) (pv 1)) (pgi rfl G.sign)) (pa_cons (pe_op op_mul (pcal c2 hr1 passN rfl (pa_cons (pv 0) pa_nil)) (pcal c2 hr1 passN rfl (pa_cons (pv 1) pa_nil))) (pa_cons (pv 2) pa_nil)))))), ?_⟩
    have lx := Dbl.ex_lt x
    have ly := Dbl.ex_lt y
    have ux := Dbl.units_lt x
    have uy := Dbl.units_lt y
    have m := Dbl.mul_eq x y
    have lm : (Sv23.units x * Sv23.units y).log2 ≤ 6000 := by
      have : Sv23.units x * Sv23.units y < 2 ^ 106 := Nat.lt_of_lt_of_le (Nat.mul_lt_mul_of_lt_of_le ux (Nat.le_of_lt uy) (by omega)) (by decide)
      exact Nat.le_trans (log2_le (n := 105) this) (by decide)
    refine ⟨_, rfl, x, hx, rfl, _, rfl, y, hy, rfl, _, _, rfl, rfl, _, _, rfl, rfl, ?_⟩
    refine ⟨_, rfl, _, rfl, _, _, rfl, rfl, _, _, rfl, rfl, _, rfl, x, hx, rfl, _, rfl, y, hy, rfl, _, _, rfl, rfl, .inl ⟨by omega, by omega⟩, _, rfl, Sv23.minus x != Sv23.minus y, Sv23.units x * Sv23.units y, ((Dbl.ex x : Nat) : Int) + ((Dbl.ex y : Nat) : Int) - 1074, lm, by omega, by omega, ?_, ?_⟩
    · have e : Builtin.bitAnd (Builtin.bitXor (x : Int) (y : Int)) 9223372036854775808 = ((Sv23.signed (Sv23.minus x != Sv23.minus y) 0 : Nat) : Int) := by
        rw [← Dbl.xor_sign hx hy, bxor]
        exact band (x ^^^ y) 9223372036854775808
      show [V.int (Builtin.bitAnd (Builtin.bitXor (x : Int) (y : Int)) 9223372036854775808), V.int (((Sv23.units x : Nat) : Int) * ((Sv23.units y : Nat) : Int)), V.int (((Dbl.ex x : Nat) : Int) + ((Dbl.ex y : Nat) : Int) - 1074)] = _
      rw [e, Int.natCast_mul]
    · rw [← m]
      exact h
end
end Kr
set_option Elab.async false
set_option linter.all false
set_option maxRecDepth 100000
set_option maxHeartbeats 2000000
/-! THE PROGRAM, def by def: rows. -/
namespace Kr
open PySem PySem.Spec PyProof.Rows L2
open Run (D64 dotO rowO mulAdd mulSub chk)
structure Glo2 (mg : Str → Option Value) : Prop where
  most1 : GI mg "MOST_DOUBLES" 4096
  zero : GI mg "ZERO" 0
  oor : GI mg "OUT_OF_RANGE" (-2)
  nf : GI mg "NOT_FINITE" (-4)
  naz : GI mg "NOT_ABOVE_ZERO" (-5)
  bzip : mg "zip" = none
  blen : mg "len" = none
abbrev iv (l : List Nat) : List V := l.map fun n => V.int (n : Nat)
def RL (H : Hp) (p : Addr) (r : List Nat) : Prop := Rd H p (.lst (iv r))
theorem RL.same {H H' : Hp} {p : Addr} {r : List Nat} (h : RL H p r) (s : Same H H') : RL H' p r := by
  rcases h with h | ⟨o, h⟩
  · exact .inl (s _ _ h)
  · exact .inr ⟨o, s _ _ h⟩
theorem RL.sq {K : PySem.W.Frag} {H : Hp} {p : Addr} {r : List Nat} (h : RL H p r) : SqL K H p (iv r) := .inl h
theorem iv_at {r : List Nat} {i : Nat} {v : V} (h : (iv r)[i]? = some v) : ∃ z, r[i]? = some z ∧ v = V.int (z : Nat) := by
  rw [List.getElem?_map] at h
  cases e : r[i]? with
  | none => rw [e] at h; cases h
  | some z => rw [e] at h; exact ⟨z, rfl, (Option.some.inj h).symm⟩
theorem iv_len (r : List Nat) : (iv r).length = r.length := List.length_map ..
theorem d64at {r : List Nat} {i z : Nat} (h : D64 r) (e : r[i]? = some z) : z < 2 ^ 64 := h z (List.mem_of_getElem? e)
/-! ### promises -/
def spRange (OR : Value) : Sp := fun vs H Q E => ∃ a b c : Int, vs = [.int a, .int b, .int c] ∧ if a < b ∨ c < a then E OR none H else Q .non H
def spRow (NF : Value) : Sp := fun vs H Q E => ∃ p r, vs = [.ref p] ∧ RL H p r ∧ if r.all Sv23.finite = true then Q .non H else E NF none H
def spCaz (AZ : Value) : Sp := fun vs H Q E => ∃ x : Nat, x < 2 ^ 64 ∧ vs = [.int x] ∧ if Sv23.less 0 x = true then Q .non H else E AZ none H
def spDot (NF : Value) : Sp := fun vs H Q E => ∃ p q xs ys, vs = [.ref p, .ref q] ∧ RL H p xs ∧ RL H q ys ∧ xs.length = ys.length ∧ D64 xs ∧ D64 ys ∧
  ((∀ z, dotO xs ys 0 = some z → ∀ H', Same H H' → Q (.int (z : Nat)) H') ∧ (dotO xs ys 0 = none → ∀ H', Same H H' → E NF none H'))
def NewRow (o : Option (List Nat)) (NF : Value) (H : Hp) (Q : VK) (E : XK) : Prop :=
  (∀ zs, o = some zs → ∀ H' l, Same H H' → H l = none → H' l = some (.lst (iv zs)) → Q (.ref l) H') ∧ (o = none → ∀ H', Same H H' → E NF none H')
def spRow2 (NF : Value) (g : Nat → Nat → Option Nat) : Sp := fun vs H Q E => ∃ p q xs ys, vs = [.ref p, .ref q] ∧ RL H p xs ∧ RL H q ys ∧ xs.length = ys.length ∧ xs.length ≤ 1000 ∧ D64 xs ∧ D64 ys ∧ NewRow (rowO g xs ys) NF H Q E
def spRow3 (NF : Value) (g : Nat → Nat → Nat → Option Nat) : Sp := fun vs H Q E => ∃ (p : Addr) (a : Nat) (q : Addr) (xs ys : List Nat), vs = [.ref p, .int (a : Nat), .ref q] ∧ a < 2 ^ 64 ∧ RL H p xs ∧ RL H q ys ∧ xs.length = ys.length ∧ xs.length ≤ 1000 ∧ D64 xs ∧ D64 ys ∧ NewRow (rowO (g a) xs ys) NF H Q E
section
variable {P : Program} {w : World} {K : PySem.W.Frag} {mg : Str → Option Value} {base : Heap} {f : Addr} {fd : FuncData}
abbrev cFin (P : Program) (w : World) (K : PySem.W.Frag) (mg : Str → Option Value) (base : Heap) (NF : Value) : Prop := Cal P w K mg base 1 "check_finite" ["bits"] (spFin NF)
abbrev cAbove (P : Program) (w : World) (K : PySem.W.Frag) (mg : Str → Option Value) (base : Heap) : Prop := Cal P w K mg base 2 "above" ["left", "right"] spAbove
abbrev cMinus (P : Program) (w : World) (K : PySem.W.Frag) (mg : Str → Option Value) (base : Heap) (NF : Value) : Prop := Cal P w K mg base 4 "minus" ["left", "right"] (sp2 NF Sv23.sub)
abbrev cTimes (P : Program) (w : World) (K : PySem.W.Frag) (mg : Str → Option Value) (base : Heap) (NF : Value) : Prop := Cal P w K mg base 3 "times" ["left", "right"] (sp2 NF Sv23.mul)
abbrev cOver (P : Program) (w : World) (K : PySem.W.Frag) (mg : Str → Option Value) (base : Heap) (NF : Value) : Prop := Cal P w K mg base 3 "over" ["left", "right"] (spOver NF)
theorem sc_range : FnScope ["number", "least", "most"] ["number", "least", "most"] (defScope s_check_range) := ⟨rfl, rfl, rfl, by decide +kernel, rfl, by decide +kernel, by decide +kernel⟩
theorem ok_range {C : Addr} (F : Fun K "check_range" "check_range" s_check_range f fd) (T : ExcC K mg "OutOfRange" C) : FnOk P w K mg base (CXn P w) 1 f fd ["number", "least", "most"] (spRange (.ref C)) := by
  refine F.okN sc_range (fun vs H Q E h => ?_) (fun cdv A outer s H vs Q E hr h => ?_)
  · obtain ⟨a, b, c, rfl, _⟩ := h
    rfl
  · obtain ⟨a, b, c, rfl, h⟩ := h
    refine ⟨_, pss_one (ps_if (pw_or (pt_cmpR op_lt (pv 0) (pv 1) (nomark _)) (pw_or1 (pt_cmpR op_gt (pv 0) (pv 2) (nomark _)))).pt (pss_one (ps_raise rfl rfl T madeN)) pss_nil), ?_⟩
    refine ⟨_, rfl, _, rfl, _, _, rfl, rfl, _, rfl, iteD (fun z => ?_) fun z => ?_⟩
    · refine iteT ?_
      rw [if_pos (.inl z)] at h
      exact h
    · refine ⟨_, rfl, _, rfl, _, _, rfl, rfl, _, rfl, iteD (fun z2 => ?_) fun z2 => ?_⟩
      · rw [if_pos (.inr z2)] at h
        exact h
      · rw [if_neg (by omega)] at h
        exact h
theorem sc_row : FnScope ["row", "double"] ["row"] (defScope s_check_row) := ⟨rfl, rfl, rfl, by decide +kernel, rfl, by decide +kernel, by decide +kernel⟩
theorem all_take {r : List Nat} {i z : Nat} (h : (r.take i).all Sv23.finite = true) (e : r[i]? = some z) (hz : Sv23.finite z = true) : (r.take (i + 1)).all Sv23.finite = true := by
  have hi := (List.getElem?_eq_some_iff.mp e)
  rw [List.take_succ, e, List.all_append, h]
  simp [hz]
theorem ok_row {NF : Value} (F : Fun K "check_row" "check_row" s_check_row f fd) (c1 : cFin P w K mg base NF) : FnOk P w K mg base (CXn P w) 2 f fd ["row"] (spRow NF) := by
  refine F.okN sc_row (fun vs H Q E h => ?_) (fun cdv A outer s H vs Q E hr h => ?_)
  · obtain ⟨p, r, rfl, _⟩ := h
    rfl
  · obtain ⟨p, r, rfl, hp, h⟩ := h
    refine ⟨_, pss_one (ps_for ownN rfl (pi_list (pv 0)) (pg_name (i := 1) sc_row.nd rfl (Or.inl rfl)) (pss_one (ps_expr (pcal c1 hr passN rfl (pa_cons (pv 1) pa_nil))))), ?_⟩
    refine ⟨_, rfl, p, rfl, ⟨_, hp.sq⟩, for_list (K := K) (a := p) (xs := iv r) (fun i σ H' => H' = H ∧ (∃ v, σ = [some (.ref p), v]) ∧ (r.take i).all Sv23.finite = true) ⟨rfl, ⟨_, rfl⟩, rfl⟩ (fun i σ H' _ ⟨e, _⟩ => by rw [e]; exact hp.sq) ?_ ?_⟩
    · rintro i y σ H' hi ⟨rfl, ⟨v, rfl⟩, ha⟩
      obtain ⟨z, hz, rfl⟩ := iv_at hi
      refine ⟨_, rfl, z, rfl, ?_⟩
      by_cases fz : Sv23.finite z = true
      · rw [if_pos fz]
        exact ⟨rfl, ⟨_, rfl⟩, all_take ha hz fz⟩
      · rw [if_neg fz]
        rw [if_neg (fun q => fz (List.all_eq_true.mp q z (List.mem_of_getElem? hz)))] at h
        exact h
    · rintro σ H' ⟨rfl, _, ha⟩
      rw [iv_len, List.take_length] at ha
      rw [if_pos ha] at h
      exact h
theorem mulAdd_steps {s a b : Nat} : mulAdd s a b = if Sv23.finite (Sv23.mul a b) = true then (if Sv23.finite (Sv23.add s (Sv23.mul a b)) = true then some (Sv23.add s (Sv23.mul a b)) else none) else none := by
  unfold mulAdd chk
  by_cases h : Sv23.finite (Sv23.mul a b) = true
  · rw [if_pos h, if_pos h]
    rfl
  · rw [if_neg h, if_neg h]
    rfl
theorem mulAdd_cases (s a b : Nat) : (¬ Sv23.finite (Sv23.mul a b) = true ∧ mulAdd s a b = none) ∨ (Sv23.finite (Sv23.mul a b) = true ∧ ¬ Sv23.finite (Sv23.add s (Sv23.mul a b)) = true ∧ mulAdd s a b = none) ∨
    (Sv23.finite (Sv23.mul a b) = true ∧ Sv23.finite (Sv23.add s (Sv23.mul a b)) = true ∧ mulAdd s a b = some (Sv23.add s (Sv23.mul a b))) := by
  have m := mulAdd_steps (s := s) (a := a) (b := b)
  by_cases f1 : Sv23.finite (Sv23.mul a b) = true
  · rw [if_pos f1] at m
    by_cases f2 : Sv23.finite (Sv23.add s (Sv23.mul a b)) = true
    · rw [if_pos f2] at m
      exact .inr (.inr ⟨f1, f2, m⟩)
    · rw [if_neg f2] at m
      exact .inr (.inl ⟨f1, f2, m⟩)
  · rw [if_neg f1] at m
    exact .inl ⟨f1, m⟩
theorem Same.new {H H' : Hp} {t : Addr} {o : HO} (s : Same H H') (h : H' t = Option.none) : Same H (upd H' t o) := fun b u e => by
  rw [upd_ne (ne_of_none (s b u e) h)]
  exact s b u e
theorem sc_dot : FnScope ["left", "right", "total", "u", "v"] ["left", "right"] (defScope s_dot) := ⟨rfl, rfl, rfl, by decide +kernel, rfl, by decide +kernel, by decide +kernel⟩
theorem ok_dot {NF : Value} (F : Fun K "dot" "dot" s_dot f fd) (G2 : Glo2 mg) (c1 : cPlus P w K mg base NF) (c2 : cTimes P w K mg base NF) : FnOk P w K mg base (CXn P w) 4 f fd ["left", "right"] (spDot NF) := by
  refine F.okN sc_dot (fun vs H Q E h => ?_) (fun cdv A outer s H vs Q E hr h => ?_)
  · obtain ⟨p, q, xs, ys, rfl, _⟩ := h
    rfl
  · obtain ⟨p, q, xs, ys, rfl, hp, hq, hl, hx, hy, h1, h2⟩ := h
    refine ⟨_, pss_cons (ps_set (i := 2) sc_dot.nd rfl (Or.inl rfl) (pgi rfl G2.zero))
      (pss_cons (ps_for ownN rfl (pi_zip rfl G2.bzip (pa_cons (pv 0) (pa_cons (pv 1) pa_nil))) (pg_tup rfl (pgs_cons (pg_name (i := 3) sc_dot.nd rfl (Or.inl rfl)) (pgs_cons (pg_name (i := 4) sc_dot.nd rfl (Or.inl rfl)) pgs_nil)))
        (pss_one (ps_set (i := 2) sc_dot.nd rfl (Or.inl rfl) (pcal c1 hr passN rfl (pa_cons (pv 2) (pa_cons (pcal c2 hr passN rfl (pa_cons (pv 3) (pa_cons (pv 4) pa_nil))) pa_nil))))))
      (pss_one (ps_ret (pv 2)))), ?_⟩
    refine ⟨_, rfl, _, rfl, p, q, iv xs, iv ys, rfl, hp.sq, hq.sq, for_zip (K := K) (a := p) (b := q) (xs := iv xs) (ys := iv ys)
      (fun i σ H' => Same H H' ∧ ∃ t u v, σ = [some (.ref p), some (.ref q), some (.int (t : Nat)), u, v] ∧ t < 2 ^ 64 ∧ dotO (xs.take i) (ys.take i) 0 = some t) (by rw [iv_len, iv_len, hl]) ⟨Same.refl H, 0, _, _, rfl, by decide, rfl⟩
      (fun i σ H' _ ⟨s1, _⟩ => ⟨(hp.same s1).sq, (hq.same s1).sq⟩) ?_ ?_⟩
    · rintro i x y T σ H' hi hj ⟨s1, t, u, v, rfl, ht, hd⟩ hT
      obtain ⟨zx, ex, rfl⟩ := iv_at hi
      obtain ⟨zy, ey, rfl⟩ := iv_at hj
      have s2 : Same H (upd H' T (.tup [.int (zx : Nat), .int (zy : Nat)])) := Same.new s1 hT
      have dt := Run.dotO_take (s := 0) ex ey
      rw [hd] at dt
      have dt : dotO (xs.take (i + 1)) (ys.take (i + 1)) 0 = mulAdd t zx zy := dt
      refine ⟨T, _, rfl, SqT.of upd_same, rfl, _, _, rfl, _, _, rfl, rfl, ?_⟩
      refine ⟨_, rfl, _, rfl, _, rfl, zx, zy, d64at hx ex, d64at hy ey, rfl, ?_⟩
      rcases mulAdd_cases t zx zy with ⟨f1, m⟩ | ⟨f1, f2, m⟩ | ⟨f1, f2, m⟩
      · rw [if_neg f1]
        exact h2 (Run.dotO_none (i := i + 1) (by rw [dt]; exact m)) _ s2
      · rw [if_pos f1]
        refine ⟨t, _, ht, Dbl.mul_lt _ _, rfl, ?_⟩
        rw [if_neg f2]
        exact h2 (Run.dotO_none (i := i + 1) (by rw [dt]; exact m)) _ s2
      · rw [if_pos f1]
        refine ⟨t, _, ht, Dbl.mul_lt _ _, rfl, ?_⟩
        rw [if_pos f2]
        exact ⟨s2, _, _, _, rfl, Run.mulAdd_lt m, by rw [dt]; exact m⟩
    · rintro σ H' ⟨s1, t, u, v, rfl, ht, hd⟩
      rw [iv_len, List.take_length, hl, List.take_length] at hd
      exact ⟨_, rfl, h1 t hd H' s1⟩
end
end Kr
set_option Elab.async false
set_option linter.all false
set_option maxRecDepth 100000
set_option maxHeartbeats 2000000
/-! THE PROGRAM, def by def: questions and answers. -/
namespace Kr
open PySem PySem.Spec PyProof.Rows L2
open Run (D64 dotO rowO mulAdd mulSub chk run toldOf ansOf)
/-! ### what is kept -/
def Kp (ql : Addr) (H H' : Hp) : Prop := ∀ b o, H b = some o → b ≠ ql → H' b = some o
section
variable {ql : Addr} {H H' H1 H2 : Hp}
theorem Kp.refl : Kp ql H H := fun _ _ h _ => h
theorem Kp.trans (a : Kp ql H H1) (b : Kp ql H1 H2) : Kp ql H H2 := fun c o h n => b c o (a c o h n) n
theorem kp_same (s : Same H H') : Kp ql H H' := fun b o h _ => s b o h
theorem rd_same {a : Addr} {u : HO} (r : Rd H a u) (s : Same H H') : Rd H' a u := by
  rcases r with h | ⟨o, h⟩
  · exact .inl (s _ _ h)
  · exact .inr ⟨o, s _ _ h⟩
theorem rd_kp {a : Addr} {u : HO} (r : Rd H a u) (n : a ≠ ql) (s : Kp ql H H') : Rd H' a u := by
  rcases r with h | ⟨o, h⟩
  · exact .inl (s _ _ h n)
  · exact .inr ⟨o, s _ _ h n⟩
theorem same_new {l : Addr} {o : HO} (h : H l = Option.none) : Same H (upd H l o) := fun b u e => by
  rw [upd_ne (ne_of_none e h)]
  exact e
end
/-! ### rows by their addresses, none of which is among ex -/
inductive RowsAt (ex : List Addr) (H : Hp) : List Addr → List (List Nat) → Prop
  | nil : RowsAt ex H [] []
  | cons {a : Addr} {r : List Nat} {as : List Addr} {rs : List (List Nat)} : a ∉ ex → RL H a r → RowsAt ex H as rs → RowsAt ex H (a :: as) (r :: rs)
theorem RowsAt.len {ex : List Addr} {H : Hp} : ∀ {as : List Addr} {rs : List (List Nat)}, RowsAt ex H as rs → as.length = rs.length
  | _, _, .nil => rfl
  | _, _, .cons _ _ t => by
    show _ + 1 = _ + 1
    rw [t.len]
theorem RowsAt.at {ex : List Addr} {H : Hp} : ∀ {as : List Addr} {rs : List (List Nat)} {i : Nat} {r : List Nat}, RowsAt ex H as rs → rs[i]? = some r → ∃ a, as[i]? = some a ∧ a ∉ ex ∧ RL H a r
  | _, _, _, _, .nil, h => by simp at h
  | _, _, 0, _, .cons n0 h0 _, h => by
    simp at h
    subst h
    exact ⟨_, rfl, n0, h0⟩
  | _, _, i + 1, _, .cons _ _ t, h => by
    obtain ⟨a, h1, h2⟩ := t.at (i := i) (by simpa using h)
    exact ⟨a, by simpa using h1, h2⟩
theorem RowsAt.at' {ex : List Addr} {H : Hp} : ∀ {as : List Addr} {rs : List (List Nat)} {i : Nat} {a : Addr}, RowsAt ex H as rs → as[i]? = some a → ∃ r, rs[i]? = some r ∧ RL H a r
  | _, _, _, _, .nil, h => by simp at h
  | _, _, 0, _, .cons _ h0 _, h => by
    simp at h
    subst h
    exact ⟨_, rfl, h0⟩
  | _, _, i + 1, _, .cons _ _ t, h => by
    obtain ⟨a, h1, h2⟩ := t.at' (i := i) (by simpa using h)
    exact ⟨a, by simpa using h1, h2⟩
theorem RowsAt.snoc {ex : List Addr} {H : Hp} {a : Addr} {r : List Nat} (n : a ∉ ex) (h : RL H a r) : ∀ {as : List Addr} {rs : List (List Nat)}, RowsAt ex H as rs → RowsAt ex H (as ++ [a]) (rs ++ [r])
  | _, _, .nil => .cons n h .nil
  | _, _, .cons n0 h0 t => .cons n0 h0 (RowsAt.snoc n h t)
theorem RowsAt.monoX {ex ex' : List Addr} {H H' : Hp} : ∀ {as : List Addr} {rs : List (List Nat)}, RowsAt ex H as rs → (∀ a r, r ∈ rs → a ∉ ex → RL H a r → a ∉ ex' ∧ RL H' a r) → RowsAt ex' H' as rs
  | _, _, .nil, _ => .nil
  | _, _, .cons n0 h0 t, k => .cons (k _ _ List.mem_cons_self n0 h0).1 (k _ _ List.mem_cons_self n0 h0).2 (t.monoX fun a r hr => k a r (List.mem_cons_of_mem _ hr))
theorem RowsAt.mono {ex : List Addr} {H H' : Hp} {as : List Addr} {rs : List (List Nat)} (h : RowsAt ex H as rs) (k : ∀ a r, r ∈ rs → RL H a r → RL H' a r) : RowsAt ex H' as rs := h.monoX fun a r hr n h => ⟨n, k a r hr h⟩
theorem RowsAt.same {ex : List Addr} {H H' : Hp} {as : List Addr} {rs : List (List Nat)} (h : RowsAt ex H as rs) (s : Same H H') : RowsAt ex H' as rs := h.mono fun _ _ _ r => r.same s
theorem RL.ne {H : Hp} {p ql : Addr} {r : List Nat} {qa : List Addr} (h : RL H p r) (hr : 0 < r.length) (hq : H ql = some (.lst (qa.map V.ref))) : p ≠ ql := by
  rintro rfl
  rcases h with h | ⟨o, h⟩
  · rw [hq] at h
    injection h with h
    injection h with h
    cases r with
    | nil => exact absurd hr (Nat.lt_irrefl _)
    | cons x t =>
      cases qa with
      | nil => cases h
      | cons a b =>
        injection h with h1 _
        cases h1
  · rw [hq] at h
    cases h
theorem RL.kp {H H' : Hp} {p ql : Addr} {r : List Nat} {qa : List Addr} (h : RL H p r) (hr : 0 < r.length) (hq : H ql = some (.lst (qa.map V.ref))) (k : Kp ql H H') : RL H' p r := rd_kp h (h.ne hr hq) k
/-! ### an Asking -/
def af (al ql : Addr) : List (Str × V) := putF "questions" (.ref ql) (putF "answers" (.ref al) [])
theorem af_q (al ql : Addr) : (af al ql).lookup ("questions" : Str) = some (.ref ql) := by
  unfold af
  rw [lookup_putF, if_pos rfl]
theorem af_a (al ql : Addr) : (af al ql).lookup ("answers" : Str) = some (.ref al) := by
  unfold af
  rw [lookup_putF, if_neg (by decide +kernel), lookup_putF, if_pos rfl]
theorem af_no (al ql : Addr) {m : Str} (h1 : ¬ m = "questions") (h2 : ¬ m = "answers") : (af al ql).lookup m = none := by
  unfold af
  rw [lookup_putF, if_neg h1, lookup_putF, if_neg h2]
  all_goals rfl
structure QueX (ex : List Addr) (C g al ql : Addr) (H : Hp) (qs : List (List Nat)) : Prop where
  obj : ∃ dx, H g = some (.ins C dx (af al ql))
  que : ∃ qa : List Addr, H ql = some (.lst (qa.map V.ref)) ∧ RowsAt ex H qa qs
  few : qs.length ≤ 101
  thin : ∀ r ∈ qs, 0 < r.length ∧ r.length ≤ 64
abbrev QueAt (C g al ql : Addr) (H : Hp) (qs : List (List Nat)) : Prop := QueX [] C g al ql H qs
def AnsIX (ex : List Addr) (al : Addr) (A : List (List Nat)) (H : Hp) : Prop := ∃ as : List Addr, Rd H al (.lst (as.map V.ref)) ∧ RowsAt ex H as A
abbrev AnsIn (al : Addr) (A : List (List Nat)) (H : Hp) : Prop := AnsIX [] al A H
structure AnsX (ex : List Addr) (al ql : Addr) (A : List (List Nat)) (n : Nat) (H : Hp) : Prop where
  ans : AnsIX ex al A H
  ne : al ≠ ql
  pos : 0 < n
  le : n ≤ 64
  row : ∀ r ∈ A, r.length = n ∧ D64 r
  few : A.length ≤ 100
abbrev AnsAt (al ql : Addr) (A : List (List Nat)) (n : Nat) (H : Hp) : Prop := AnsX [] al ql A n H
section
variable {ex : List Addr} {C g al ql : Addr} {H H' : Hp} {qs A : List (List Nat)} {n : Nat}
theorem QueX.same (q : QueX ex C g al ql H qs) (s : Same H H') : QueX ex C g al ql H' qs := by
  obtain ⟨dx, h1⟩ := q.obj
  obtain ⟨qa, h2, h3⟩ := q.que
  exact ⟨⟨dx, s _ _ h1⟩, ⟨qa, s _ _ h2, h3.same s⟩, q.few, q.thin⟩
theorem AnsIX.same (a : AnsIX ex al A H) (s : Same H H') : AnsIX ex al A H' := by
  obtain ⟨as, h1, h2⟩ := a
  exact ⟨as, rd_same h1 s, h2.same s⟩
theorem AnsX.same (a : AnsX ex al ql A n H) (s : Same H H') : AnsX ex al ql A n H' := ⟨a.ans.same s, a.ne, a.pos, a.le, a.row, a.few⟩
theorem AnsX.kp (a : AnsX ex al ql A n H) (q : QueX ex C g al ql H qs) (k : Kp ql H H') : AnsX ex al ql A n H' := by
  obtain ⟨as, h1, h2⟩ := a.ans
  obtain ⟨qa, h3, _⟩ := q.que
  exact ⟨⟨as, rd_kp h1 a.ne k, h2.mono fun b r hr h => h.kp (by rw [(a.row r hr).1]; exact a.pos) h3 k⟩, a.ne, a.pos, a.le, a.row, a.few⟩
theorem QueX.rl (q : QueX ex C g al ql H qs) {p : Addr} {r : List Nat} (h : RL H p r) (hr : 0 < r.length) (k : Kp ql H H') : RL H' p r := by
  obtain ⟨qa, h3, _⟩ := q.que
  exact h.kp hr h3 k
end
theorem flat_len : ∀ {l : List (List Nat)} {k : Nat}, (∀ r ∈ l, r.length ≤ k) → l.flatten.length ≤ l.length * k
  | [], _, _ => Nat.zero_le _
  | x :: r, k, h => by
    rw [List.flatten_cons, List.length_append, List.length_cons, Nat.succ_mul, Nat.add_comm (r.length * k)]
    exact Nat.add_le_add (h x List.mem_cons_self) (flat_len fun y hy => h y (List.mem_cons_of_mem _ hy))
theorem QueX.size {ex : List Addr} {C g al ql : Addr} {H : Hp} {qs : List (List Nat)} (q : QueX ex C g al ql H qs) : qs.flatten.length ≤ 6464 :=
  Nat.le_trans (flat_len (k := 64) fun r hr => (q.thin r hr).2) (by have := q.few; omega)
/-! ### promises -/
def spInit (C : Addr) : Sp := fun vs H Q _ => ∃ p dx al : Addr, vs = [.ref p, .ref al] ∧ H p = some (.ins C dx []) ∧
  ∀ (H' : Hp) (ql : Addr), H ql = none → H' p = some (.ins C dx (af al ql)) → H' ql = some (.lst []) → (∀ b o, H b = some o → b ≠ p → H' b = some o) → Q .non H'
def spAsk (C : Addr) (NF AW : Value) : Sp := fun vs H Q E => ∃ (ex : List Addr) (g p al ql : Addr) (A : List (List Nat)) (n : Nat) (qs : List (List Nat)) (row : List Nat), vs = [.ref g, .ref p] ∧ p ∉ ex ∧ QueX ex C g al ql H qs ∧ AnsX ex al ql A n H ∧ RL H p row ∧ row.length = n ∧ qs.length ≤ A.length ∧
  ∀ H', Kp ql H H' → QueX ex C g al ql H' (qs ++ [row]) → AnsX ex al ql A n H' →
    (A[qs.length]? = none → E AW none H') ∧ (∀ y, A[qs.length]? = some y → y.all Sv23.finite = false → E NF none H') ∧ ∀ y a, A[qs.length]? = some y → y.all Sv23.finite = true → a ∉ ex → RL H' a y → Q (.ref a) H'
def spRaft : Sp := fun vs H Q _ => ∃ (p : Addr) (as : List Addr) (rows : List (List Nat)), vs = [.ref p] ∧ Rd H p (.lst (as.map V.ref)) ∧ RowsAt [] H as rows ∧ rows.flatten.length ≤ 10000 ∧
  ∀ H' l, Same H H' → H l = none → H' l = some (.lst (iv rows.flatten)) → Q (.ref l) H'
def spAsked (C : Addr) : Sp := fun vs H Q _ => ∃ (g al ql : Addr) (qs : List (List Nat)), vs = [.ref g] ∧ QueAt C g al ql H qs ∧
  ∀ H' l, Same H H' → H l = none → H' l = some (.lst (.int (qs.length : Nat) :: iv qs.flatten)) → Q (.ref l) H'
structure Ask (K : PySem.W.Frag) (mg : Str → Option Value) (C : Addr) : Prop where
  cl : Cls K C
  nA : NoAttr K C "answers"
  nQ : NoAttr K C "questions"
  mgC : mg "Asking" = some (.ref C)
def Mcal (P : Program) (w : World) (K : PySem.W.Frag) (mg : Str → Option Value) (base : Heap) (k : Nat) (C : Addr) (m : Str) (ps : List Str) (sp : Sp) : Prop :=
  ∃ f fd, Meth K C m f ∧ Binds K fd ps [] ∧ FnOk P w K mg base (CXn P w) k f fd ps sp
theorem pmeth {X : Cx} {k : Nat} {C : Addr} {m : Str} {ps : List Str} {sp : Sp} {E : XK} {o e : Expr} {es : List Expr} {ta : TE} {t : TA} {apos pos : Pos} {pl : Sem Bool} (c : Mcal X.prog X.w X.K X.mg X.base k C m ps sp) (cl : Cls X.K C) (hr : Room k X.A) (hx : Passes (CXn X.prog X.w) X E) (he : PE X o ta) (ha : PA X (e :: es) t)
    (hst : starEach (e :: es) X.env = (false, eval e X.env) :: starEach es X.env := by rfl) (hpl : (backTo pos (starEach es X.env)).any (·.1) = false := by rfl)
    (ht : eval (.Call (.Attribute o m apos) (e :: es) [] pos) X.env = (do
      let ov ← eval o X.env
      standAt apos.atName
      let (f, first) ← holding [ov] (getMethod ov m pl)
      callWith pos f first (backTo pos (starEach (e :: es) X.env)) (backToKw pos (keywordEach [] X.env))) := by rfl) :
    PE X (.Call (.Attribute o m apos) (e :: es) [] pos) (tMeth C m sp [] E ta t) := by
  obtain ⟨f, fd, h1, h2, h3⟩ := c
  exact pe_meth he cl h1 h3 hr h2 .nil hx ha hst hpl ht
theorem pmeth0 {X : Cx} {k : Nat} {C : Addr} {m : Str} {ps : List Str} {sp : Sp} {E : XK} {o : Expr} {ta : TE} {apos pos : Pos} {pl : Sem Bool} (c : Mcal X.prog X.w X.K X.mg X.base k C m ps sp) (cl : Cls X.K C) (hr : Room k X.A) (hx : Passes (CXn X.prog X.w) X E) (he : PE X o ta)
    (ht : eval (.Call (.Attribute o m apos) [] [] pos) X.env = (do
      let ov ← eval o X.env
      standAt apos.atName
      let (f, first) ← holding [ov] (getMethod ov m pl)
      callWith pos f first (backTo pos (starEach [] X.env)) (backToKw pos (keywordEach [] X.env))) := by rfl) :
    PE X (.Call (.Attribute o m apos) [] [] pos) (tMeth C m sp [] E ta tNil) := by
  obtain ⟨f, fd, h1, h2, h3⟩ := c
  exact pe_meth0 he cl h1 h3 hr h2 .nil hx ht
section
variable {P : Program} {w : World} {K : PySem.W.Frag} {mg : Str → Option Value} {base : Heap} {f : Addr} {fd : FuncData}
abbrev cRow (P : Program) (w : World) (K : PySem.W.Frag) (mg : Str → Option Value) (base : Heap) (NF : Value) : Prop := Cal P w K mg base 2 "check_row" ["row"] (spRow NF)
abbrev cDot (P : Program) (w : World) (K : PySem.W.Frag) (mg : Str → Option Value) (base : Heap) (NF : Value) : Prop := Cal P w K mg base 4 "dot" ["left", "right"] (spDot NF)
abbrev cRange (P : Program) (w : World) (K : PySem.W.Frag) (mg : Str → Option Value) (base : Heap) (OR : Value) : Prop := Cal P w K mg base 1 "check_range" ["number", "least", "most"] (spRange OR)
abbrev cRaft (P : Program) (w : World) (K : PySem.W.Frag) (mg : Str → Option Value) (base : Heap) : Prop := Cal P w K mg base 1 "row_after_row" ["rows"] spRaft
abbrev mAsk (P : Program) (w : World) (K : PySem.W.Frag) (mg : Str → Option Value) (base : Heap) (C : Addr) (NF AW : Value) : Prop := Mcal P w K mg base 3 C "ask" ["self", "row"] (spAsk C NF AW)
abbrev mAsked (P : Program) (w : World) (K : PySem.W.Frag) (mg : Str → Option Value) (base : Heap) (C : Addr) : Prop := Mcal P w K mg base 2 C "asked" ["self"] (spAsked C)
theorem sc_init : FnScope ["self", "answers"] ["self", "answers"] (defScope s_Asking_init) := ⟨rfl, rfl, rfl, by decide +kernel, rfl, by decide +kernel, by decide +kernel⟩
theorem ok_init {C : Addr} (F : Fun K "__init__" "Asking.__init__" s_Asking_init f fd) (T : Ask K mg C) : FnOk P w K mg base (CXn P w) 1 f fd ["self", "answers"] (spInit C) := by
  refine F.okN sc_init (fun vs H Q E h => ?_) (fun cdv A outer s H vs Q E hr h => ?_)
  · obtain ⟨p, dx, al, rfl, _⟩ := h
    rfl
  · obtain ⟨p, dx, al, rfl, hp, k⟩ := h
    refine ⟨_, pss_cons (ps_fld (pv 0) (pv 1) rfl) (pss_one (ps_fld (pv 0) (pe_lst pa_nil) rfl)), ?_⟩
    refine ⟨_, rfl, _, rfl, p, C, dx, [], rfl, hp, T.cl, T.nA, (by show 0 < 1000; decide), Nat.zero_le _, fun ql hq => ?_⟩
    have nq : ql ≠ p := fun z => by
      rw [z, upd_same] at hq
      cases hq
    have hq0 : H ql = none := by
      rw [upd_ne nq] at hq
      exact hq
    refine ⟨_, rfl, p, C, dx, putF "answers" (.ref al) [], rfl, ?_, T.cl, T.nQ, (by show 1 < 1000; decide), ?_⟩
    · rw [upd_ne (Ne.symm nq), upd_same]
    · refine k _ ql hq0 upd_same ?_ fun b o e hb => ?_
      · rw [upd_ne nq, upd_same]
      · rw [upd_ne hb, upd_ne (ne_of_none e hq0), upd_ne hb]
        exact e
theorem sc_ask : FnScope ["self", "row", "place", "answer"] ["self", "row"] (defScope s_Asking_ask) := ⟨rfl, rfl, rfl, by decide +kernel, rfl, by decide +kernel, by decide +kernel⟩
theorem ok_ask {C AW : Addr} {NF : Value} (F : Fun K "ask" "Asking.ask" s_Asking_ask f fd) (G2 : Glo2 mg) (T : Ask K mg C) (TW : ExcC K mg "AnswerWanting" AW) (c1 : cRow P w K mg base NF) : FnOk P w K mg base (CXn P w) 3 f fd ["self", "row"] (spAsk C NF (.ref AW)) := by
  refine F.okN sc_ask (fun vs H Q E h => ?_) (fun cdv A outer s H vs Q E hr h => ?_)
  · obtain ⟨ex, g, p, al, ql, AA, n, qs, row, rfl, _⟩ := h
    rfl
  · obtain ⟨ex, g, p, al, ql, AA, n, qs, row, rfl, hpx, hQ, hA, hp, hn, hle, k⟩ := h
    refine ⟨_, pss_cons (ps_set (i := 2) sc_ask.nd rfl (Or.inl rfl) (pe_callB call_len_seq (by rfl) G2.blen b_len (pa_cons (pe_fld (pv 0) rfl) pa_nil)))
      (pss_cons (ps_expr (pe_bm PySem.F.plainAttrs_list PySem.F.slot_list_append PySem.F.type_list_append mt_append (pe_fld (pv 0) rfl) (pa_cons (pv 1) pa_nil)))
      (pss_cons (ps_if (pt_cmpR op_eq (pv 2) (pe_callB call_len_seq (by rfl) G2.blen b_len (pa_cons (pe_fld (pv 0) rfl) pa_nil)) (nomark _)) (pss_one (ps_raise rfl rfl TW madeN)) pss_nil)
      (pss_cons (ps_set (i := 3) sc_ask.nd rfl (Or.inl rfl) (pe_ix ix_list (pe_fld (pv 0) rfl) (pv 2) (fun _ _ => rfl)))
      (pss_cons (ps_expr (pcal c1 hr passN rfl (pa_cons (pv 3) pa_nil)))
      (pss_one (ps_ret (pv 3))))))), ?_⟩
    obtain ⟨dx, hg⟩ := hQ.obj
    obtain ⟨qa, hq, hqr⟩ := hQ.que
    obtain ⟨as, ha, har⟩ := hA.ans
    have lq : (qa.map V.ref).length = qs.length := by rw [List.length_map, hqr.len]
    have la : (as.map V.ref).length = AA.length := by rw [List.length_map, har.len]
    have few := hA.few
    have hrow : 0 < row.length := by rw [hn]; exact hA.pos
    have ngq : g ≠ ql := ne_of hg hq (by intro z; cases z)
    have hlt : (qa.map V.ref).length < sizeLine := by
      rw [lq]
      exact Nat.lt_of_le_of_lt (Nat.le_trans hle few) (by decide)
    -- the heap behind the append
    have kp : Kp ql H (upd H ql (.lst (qa.map V.ref ++ [.ref p]))) := fun b o e hb => by rw [upd_ne hb]; exact e
    have hA' := hA.kp hQ kp
    have hQ' : QueX ex C g al ql (upd H ql (.lst (qa.map V.ref ++ [.ref p]))) (qs ++ [row]) := by
      refine ⟨⟨dx, kp _ _ hg ngq⟩, ⟨qa ++ [p], ?_, ?_⟩, ?_, fun r hr => ?_⟩
      · rw [upd_same, List.map_append]
        rfl
      · exact RowsAt.snoc hpx (hQ.rl hp hrow kp) (hqr.mono fun a r hr h => hQ.rl h (hQ.thin r hr).1 kp)
      · rw [List.length_append, List.length_singleton]
        omega
      · rcases List.mem_append.mp hr with z | z
        · exact hQ.thin r z
        · rw [List.mem_singleton.mp z]
          exact ⟨hrow, by rw [hn]; exact hA.le⟩
    obtain ⟨k1, k2, k3⟩ := k _ kp hQ' hA'
    refine ⟨_, rfl, g, C, dx, _, _, rfl, hg, T.cl, T.nQ, af_q _ _, ql, _, rfl, .inl (SqL.of hq), ?_⟩
    refine ⟨_, rfl, g, C, dx, _, _, rfl, hg, T.cl, T.nQ, af_q _ _, .inl ⟨rfl, _, SqL.of hq⟩, _, rfl, ql, _, _, rfl, rfl, hq, hlt, ?_⟩
    refine ⟨_, rfl, _, rfl, g, C, dx, _, _, rfl, kp _ _ hg ngq, T.cl, T.nA, af_a _ _, al, as.map V.ref, rfl, .inl (.inl (rd_kp ha hA.ne kp)), rfl, _, rfl, iteI (fun z => ?_) fun z => ?_⟩
    · rw [lq, la] at z
      exact k1 (List.getElem?_eq_none_iff.mpr (by omega))
    · rw [lq, la] at z
      have hlt2 : qs.length < AA.length := by omega
      obtain ⟨y, hy⟩ : ∃ y, AA[qs.length]? = some y := ⟨_, List.getElem?_eq_getElem hlt2⟩
      obtain ⟨as', ha', har'⟩ := hA'.ans
      obtain ⟨a, h1, hax, h2⟩ := har'.at hy
      refine ⟨_, rfl, g, C, dx, _, _, rfl, kp _ _ hg ngq, T.cl, T.nA, af_a _ _, _, rfl, al, as'.map V.ref, _, .ref a, rfl, rfl, .inl ha', at_of (j := qs.length) (by rw [lq]) (by rw [List.getElem?_map, h1]; rfl), ?_⟩
      refine ⟨_, rfl, a, y, rfl, h2, ?_⟩
      cases fy : y.all Sv23.finite with
      | true =>
        rw [if_pos rfl]
        exact ⟨_, rfl, k3 y a hy fy hax h2⟩
      | false =>
        rw [if_neg Bool.false_ne_true]
        exact k2 y hy fy
theorem take_flat {rows : List (List Nat)} {i : Nat} {r : List Nat} (h : rows[i]? = some r) : (rows.take (i + 1)).flatten = (rows.take i).flatten ++ r := by
  obtain ⟨h1, h2⟩ := List.getElem?_eq_some_iff.mp h
  rw [List.take_succ, h, List.flatten_append]
  show _ ++ ([r] : List (List Nat)).flatten = _
  simp
theorem flat_le {rows : List (List Nat)} (i : Nat) : (rows.take i).flatten.length ≤ rows.flatten.length := by
  have e : rows.flatten = (rows.take i).flatten ++ (rows.drop i).flatten := by rw [← List.flatten_append, List.take_append_drop]
  rw [e, List.length_append]
  exact Nat.le_add_right _ _
theorem sc_raft : FnScope ["rows", "numbers", "row"] ["rows"] (defScope s_row_after_row) := ⟨rfl, rfl, rfl, by decide +kernel, rfl, by decide +kernel, by decide +kernel⟩
theorem ok_raft (F : Fun K "row_after_row" "row_after_row" s_row_after_row f fd) : FnOk P w K mg base (CXn P w) 1 f fd ["rows"] spRaft := by
  refine F.okN sc_raft (fun vs H Q E h => ?_) (fun cdv A outer s H vs Q E hr h => ?_)
  · obtain ⟨p, as, rows, rfl, _⟩ := h
    rfl
  · obtain ⟨p, as, rows, rfl, hp, hrows, hz, k⟩ := h
    refine ⟨_, pss_cons (ps_set (i := 1) sc_raft.nd rfl (Or.inl rfl) (pe_lst pa_nil))
      (pss_cons (ps_for ownN rfl (pi_list (pv 0)) (pg_name (i := 2) sc_raft.nd rfl (Or.inl rfl)) (pss_one (ps_expr (pe_bm PySem.F.plainAttrs_list PySem.F.slot_list_extend PySem.F.type_list_extend mt_extendR (pv 1) (pa_cons (pv 2) pa_nil)))))
      (pss_one (ps_ret (pv 1)))), ?_⟩
    refine ⟨Nat.zero_le _, fun l hl => ?_⟩
    have s0 : Same H (upd H l (.lst [])) := same_new hl
    refine ⟨_, rfl, p, rfl, ⟨_, .inl (rd_same hp s0)⟩, for_list (K := K) (a := p) (xs := as.map V.ref) (fun i σ H' => Same H H' ∧ H' l = some (.lst (iv (rows.take i).flatten)) ∧ ∃ v, σ = [some (.ref p), some (.ref l), v])
      ⟨s0, upd_same, _, rfl⟩ (fun i σ H' _ ⟨s1, _⟩ => .inl (rd_same hp s1)) ?_ ?_⟩
    · rintro i y σ H' hi ⟨s1, hl1, v, rfl⟩
      obtain ⟨a, ha, rfl⟩ : ∃ a, as[i]? = some a ∧ y = V.ref a := by
        rw [List.getElem?_map] at hi
        cases e : as[i]? with
        | none => rw [e] at hi; cases hi
        | some a => rw [e] at hi; exact ⟨a, rfl, (Option.some.inj hi).symm⟩
      obtain ⟨r, hr1, hr2⟩ := hrows.at' ha
      have e1 := take_flat hr1
      have e2 := flat_le (rows := rows) (i + 1)
      rw [e1, List.length_append] at e2
      refine ⟨_, rfl, .inl ⟨rfl, _, SqL.of hl1⟩, _, rfl, l, a, _, _, rfl, rfl, hl1, hr2.same s1, ?_, fun b o e => ?_, ?_, _, rfl⟩
      · rw [iv_len, iv_len]
        exact Nat.le_trans e2 (Nat.le_trans hz (by decide))
      · rw [upd_ne (ne_of_none e hl)]
        exact s1 b o e
      · rw [upd_same, e1]
        show some (HO.lst (iv _ ++ iv r)) = some (HO.lst (iv (_ ++ r)))
        rw [show iv ((rows.take i).flatten ++ r) = iv (rows.take i).flatten ++ iv r from List.map_append]
    · rintro σ H' ⟨s1, hl1, v, rfl⟩
      rw [List.length_map, hrows.len, List.take_length] at hl1
      exact ⟨_, rfl, k H' l s1 hl hl1⟩
theorem sc_asked : FnScope ["self"] ["self"] (defScope s_Asking_asked) := ⟨rfl, rfl, rfl, by decide +kernel, rfl, by decide +kernel, by decide +kernel⟩
theorem ok_asked {C : Addr} (F : Fun K "asked" "Asking.asked" s_Asking_asked f fd) (G2 : Glo2 mg) (T : Ask K mg C) (c1 : cRaft P w K mg base) : FnOk P w K mg base (CXn P w) 2 f fd ["self"] (spAsked C) := by
  refine F.okN sc_asked (fun vs H Q E h => ?_) (fun cdv A outer s H vs Q E hr h => ?_)
  · obtain ⟨g, al, ql, qs, rfl, _⟩ := h
    rfl
  · obtain ⟨g, al, ql, qs, rfl, hQ, k⟩ := h
    refine ⟨_, pss_one (ps_ret (pe_op op_catR (pe_lst (pa_cons (pe_callB call_len_seq (by rfl) G2.blen b_len (pa_cons (pe_fld (pv 0) rfl) pa_nil)) pa_nil)) (pcal c1 hr passN rfl (pa_cons (pe_fld (pv 0) rfl) pa_nil)))), ?_⟩
    obtain ⟨dx, hg⟩ := hQ.obj
    obtain ⟨qa, hq, hqr⟩ := hQ.que
    have lq : (qa.map V.ref).length = qs.length := by rw [List.length_map, hqr.len]
    have hz := hQ.size
    refine ⟨_, rfl, g, C, dx, _, _, rfl, hg, T.cl, T.nQ, af_q _ _, ql, _, rfl, .inl (SqL.of hq), (by show 1 ≤ sizeLine; decide), fun l hl => ?_⟩
    have s0 := same_new (o := .lst [.int ((qa.map V.ref).length : Nat)]) hl
    refine ⟨_, rfl, g, C, dx, _, _, rfl, s0 _ _ hg, T.cl, T.nQ, af_q _ _, ql, qa, qs, rfl, .inl (s0 _ _ hq), hqr.same s0, Nat.le_trans hz (by decide), fun H' m s1 hm hm' => ?_⟩
    refine ⟨l, m, [.int ((qa.map V.ref).length : Nat)], iv qs.flatten, rfl, rfl, .inl (s1 _ _ upd_same), .inl hm', ?_, fun q hq' => ?_⟩
    · rw [iv_len]
      exact Nat.le_trans (Nat.add_le_add_left hz 1) (by decide)
    · have s2 : Same H (upd H' q (.lst ([.int ((qa.map V.ref).length : Nat)] ++ iv qs.flatten))) := (s0.trans s1).trans (same_new hq')
      refine k _ q s2 ((s0.trans s1).free hq') ?_
      rw [upd_same, lq]
      rfl
end
end Kr
set_option Elab.async false
set_option linter.all false
set_option maxRecDepth 100000
set_option maxHeartbeats 2000000
/-! THE PROGRAM, def by def: what is told. -/
namespace Kr
open PySem PySem.Spec PyProof.Rows L2
open Run (D64 dotO rowO mulAdd mulSub chk run toldOf ansOf)
/-! ### how a reckoning ends -/
structure Exs where
  OR : Addr
  NF : Addr
  AZ : Addr
  AW : Addr
def Outc (X : Exs) (Q : VK) (E : XK) (H' : Hp) : Option Sv23.Ans → Prop
  | none => E (.ref X.AW) none H'
  | some a => if a = Sv23.ok (-2) then E (.ref X.OR) none H' else if a = Sv23.ok (-4) then E (.ref X.NF) none H' else if a = Sv23.ok (-5) then E (.ref X.AZ) none H' else
    ∀ l, H' l = some (.lst (.int a.v :: iv a.l)) → a.l.length ≤ 9000 → Q (.ref l) H'
def Res (X : Exs) (C g al ql : Addr) (H : Hp) (Q : VK) (E : XK) (F : Run.Fin) : Prop := ∀ H', Kp ql H H' → QueAt C g al ql H' F.1 → Outc X Q E H' F.2
section
variable {X : Exs} {C g al ql : Addr} {H H' : Hp} {Q : VK} {E : XK} {F : Run.Fin} {qs : List (List Nat)}
theorem Res.kp (r : Res X C g al ql H Q E F) (k : Kp ql H H') : Res X C g al ql H' Q E F := fun H2 k2 q => r H2 (k.trans k2) q
theorem Res.want (r : Res X C g al ql H Q E F) (e : F = (qs, none)) (k : Kp ql H H') (q : QueAt C g al ql H' qs) : E (.ref X.AW) none H' := by
  subst e
  exact r H' k q
theorem Res.range (r : Res X C g al ql H Q E F) (e : F = (qs, some (Sv23.ok (-2)))) (k : Kp ql H H') (q : QueAt C g al ql H' qs) : E (.ref X.OR) none H' := by
  subst e
  have z := r H' k q
  unfold Outc at z
  dsimp only at z
  rw [if_pos rfl] at z
  exact z
theorem Res.bad (r : Res X C g al ql H Q E F) (e : F = (qs, some (Sv23.ok (-4)))) (k : Kp ql H H') (q : QueAt C g al ql H' qs) : E (.ref X.NF) none H' := by
  subst e
  have z := r H' k q
  unfold Outc at z
  dsimp only at z
  rw [if_neg (by decide), if_pos rfl] at z
  exact z
theorem Res.ret {n : Nat} {l : List Nat} {p : Addr} (r : Res X C g al ql H Q E F) (e : F = (qs, some ⟨(n : Int), l⟩)) (k : Kp ql H H') (q : QueAt C g al ql H' qs) (hp : H' p = some (.lst (.int (n : Int) :: iv l))) (hl : l.length ≤ 9000) : Q (.ref p) H' := by
  subst e
  have ne : ∀ i : Int, i < 0 → ¬ (⟨(n : Int), l⟩ : Sv23.Ans) = Sv23.ok i := fun i hi z => by
    have := congrArg Sv23.Ans.v z
    have z2 : (n : Int) = i := this
    omega
  have z := r H' k q
  unfold Outc at z
  dsimp only at z
  rw [if_neg (ne _ (by decide)), if_neg (ne _ (by decide)), if_neg (ne _ (by decide))] at z
  exact z p hp hl
end
def Tbl (X : Exs) (c : Value) (z : List Int) : Prop := (c = .ref X.OR ∧ z = [-2]) ∨ (c = .ref X.NF ∧ z = [-4]) ∨ (c = .ref X.AZ ∧ z = [-5]) ∨ (c = .ref X.AW ∧ z = [])
def ToldQ (C g al ql : Addr) (Q : VK) (v : V) (H' : Hp) : Prop := ∃ (l : Addr) (zs : List V) (qs : List (List Nat)), v = .ref l ∧ H' l = some (.lst zs) ∧ zs.length ≤ 10000 ∧ QueAt C g al ql H' qs ∧
  ∀ H'' p, H'' p = some (.lst (.int (qs.length : Nat) :: (iv qs.flatten ++ zs))) → Q (.ref p) H''
def ToldE (X : Exs) (C g al ql : Addr) (Q : VK) (c : Value) (H' : Hp) : Prop := ∃ (z : List Int) (qs : List (List Nat)), Tbl X c z ∧ QueAt C g al ql H' qs ∧
  ∀ H'' p, H'' p = some (.lst (.int (qs.length : Nat) :: (iv qs.flatten ++ z.map V.int))) → Q (.ref p) H''
def spTold (X : Exs) (C f : Addr) (sp : Sp) : Sp := fun vs H Q _ => ∃ g al ql : Addr, vs = [.ref g, .ref f] ∧
  ∀ (Q' : VK) (E' : XK), (∀ v H', ToldQ C g al ql Q v H' → Q' v H') → (∀ c t H', ToldE X C g al ql Q c H' → E' c t H') → sp [] H Q' E'
theorem iv_whole (l : List Nat) : iv l = (Sv23Neutral.whole l).map V.int := by
  unfold Sv23Neutral.whole
  rw [List.map_map]
  rfl
theorem told_map (F : Run.Fin) : (toldOf F).map V.int = .int (F.1.length : Nat) :: (iv F.1.flatten ++ (ansOf F.2).map V.int) := by
  unfold toldOf
  rw [List.map_cons, List.map_append, iv_whole]
theorem res_told {X : Exs} {C g al ql : Addr} {H : Hp} {Q : VK} {F : Run.Fin} (h : ∀ H'' p, H'' p = some (.lst ((toldOf F).map V.int)) → Q (.ref p) H'') :
    ∀ (Q' : VK) (E' : XK), (∀ v H', ToldQ C g al ql Q v H' → Q' v H') → (∀ c t H', ToldE X C g al ql Q c H' → E' c t H') → Res X C g al ql H Q' E' F := by
  intro Q' E' hQ hE H' k q
  rw [told_map] at h
  obtain ⟨qs, a⟩ := F
  dsimp only at h q ⊢
  cases a with
  | none => exact hE _ _ _ ⟨[], qs, .inr (.inr (.inr ⟨rfl, rfl⟩)), q, h⟩
  | some a =>
    unfold Outc
    dsimp only
    split
    · rename_i z
      subst z
      exact hE _ _ _ ⟨[-2], qs, .inl ⟨rfl, rfl⟩, q, h⟩
    · split
      · rename_i z
        subst z
        exact hE _ _ _ ⟨[-4], qs, .inr (.inl ⟨rfl, rfl⟩), q, h⟩
      · split
        · rename_i z
          subst z
          exact hE _ _ _ ⟨[-5], qs, .inr (.inr (.inl ⟨rfl, rfl⟩)), q, h⟩
        · intro l hl hz
          refine hQ _ _ ⟨l, _, qs, rfl, hl, ?_, q, fun H'' p hp => h H'' p ?_⟩
          · rw [List.length_cons, iv_len]
            omega
          · rw [hp]
            show _ = some (HO.lst (V.int _ :: (iv qs.flatten ++ (V.int a.v :: (Sv23Neutral.whole a.l).map V.int))))
            rw [← iv_whole]
theorem grown {C g al ql Pt d0 : Addr} {H H1 : Hp} {more : Array Value} (hP : H Pt = some (.tbl #[])) (s1 : Same H H1) (hg1 : H1 g = some (.ins C d0 (af al ql))) (hq1 : H1 ql = some (.lst [])) (nPg : Pt ≠ g) (nPq : Pt ≠ ql) :
    (∀ {p : Addr} {r : List Nat}, RL H p r → RL (upd H1 Pt (.tbl (#[] ++ more))) p r) ∧ (∀ {A : List (List Nat)}, AnsIn al A H → H ql = none → AnsIn al A (upd H1 Pt (.tbl (#[] ++ more))) ∧ al ≠ ql) ∧ QueAt C g al ql (upd H1 Pt (.tbl (#[] ++ more))) [] := by
  have s2 : ∀ b o, H1 b = some o → b ≠ Pt → upd H1 Pt (.tbl (#[] ++ more)) b = some o := fun b o e hb => by
    rw [upd_ne hb]
    exact e
  have rd2 : ∀ {p : Addr} {u : HO}, (∀ ps, u ≠ .tbl ps) → Rd H p u → Rd (upd H1 Pt (.tbl (#[] ++ more))) p u := fun {p u} hu h => by
    have np : p ≠ Pt := fun z => by
      rcases h with h | ⟨o, h⟩
      · rw [z, hP] at h
        exact hu _ (Option.some.inj h).symm
      · rw [z, hP] at h
        cases h
    rcases h with h | ⟨o, h⟩
    · exact .inl (s2 _ _ (s1 _ _ h) np)
    · exact .inr ⟨o, s2 _ _ (s1 _ _ h) np⟩
  have rl2 : ∀ {p : Addr} {r : List Nat}, RL H p r → RL (upd H1 Pt (.tbl (#[] ++ more))) p r := fun {p r} h => rd2 (fun ps z => nomatch z) h
  refine ⟨rl2, fun {A} hA hq0 => ?_, ⟨d0, s2 _ _ hg1 (Ne.symm nPg)⟩, ⟨[], s2 _ _ hq1 (Ne.symm nPq), .nil⟩, by decide, fun r hr => absurd hr (by simp)⟩
  obtain ⟨as, ha, har⟩ := hA
  refine ⟨⟨as, rd2 (fun ps z => nomatch z) ha, har.mono fun a r _ h => rl2 h⟩, ?_⟩
  rcases ha with h | ⟨o, h⟩
  · exact ne_of_none h hq0
  · exact ne_of_none h hq0
/-! ### the clauses -/
structure Hnd (K : PySem.W.Frag) (mg : Str → Option Value) (X : Exs) : Prop where
  m1 : mg "OutOfRange" = some (.ref X.OR)
  m2 : mg "NotFinite" = some (.ref X.NF)
  m3 : mg "NotAboveZero" = some (.ref X.AZ)
  m4 : mg "AnswerWanting" = some (.ref X.AW)
  e11 : PySem.W.exmOne K (.ref X.OR) (.ref X.OR) = some true
  e21 : PySem.W.exmOne K (.ref X.NF) (.ref X.OR) = some false
  e22 : PySem.W.exmOne K (.ref X.NF) (.ref X.NF) = some true
  e31 : PySem.W.exmOne K (.ref X.AZ) (.ref X.OR) = some false
  e32 : PySem.W.exmOne K (.ref X.AZ) (.ref X.NF) = some false
  e33 : PySem.W.exmOne K (.ref X.AZ) (.ref X.AZ) = some true
  e41 : PySem.W.exmOne K (.ref X.AW) (.ref X.OR) = some false
  e42 : PySem.W.exmOne K (.ref X.AW) (.ref X.NF) = some false
  e43 : PySem.W.exmOne K (.ref X.AW) (.ref X.AZ) = some false
  e44 : PySem.W.exmOne K (.ref X.AW) (.ref X.AW) = some true
section
variable {P : Program} {w : World} {K : PySem.W.Frag} {mg : Str → Option Value} {base : Heap}
theorem sc_told : FnScope ["asking", "reckon", "answered"] ["asking", "reckon"] (defScope s_told) := ⟨rfl, rfl, rfl, by decide +kernel, rfl, by decide +kernel, by decide +kernel⟩
theorem ok_told {X : Exs} {C f ft : Addr} {fd fdT : FuncData} {sp : Sp} {kR : Nat} (h2 : 2 ≤ kR) (F : Fun K "told" "told" s_told ft fdT) (G2 : Glo2 mg) (T : Ask K mg C) (Hd : Hnd K mg X) (cA : mAsked P w K mg base C) (hf : PySem.W.FnAt f base) (hb : ∀ s, BindsTo s fd ⟨[], []⟩ []) (FR : FnOk P w K mg base (CXn P w) kR f fd [] sp) :
    FnOk P w K mg base (CXn P w) (kR + 1) ft fdT ["asking", "reckon"] (spTold X C f sp) := by
  refine F.okN sc_told (fun vs H Q E h => ?_) (fun cdv A outer s H vs Q E hr h => ?_)
  · obtain ⟨g, al, ql, rfl, _⟩ := h
    rfl
  · obtain ⟨g, al, ql, rfl, k⟩ := h
    have hr2 : Room 2 _ := hr.mono h2
    refine ⟨_, pss_cons (ps_try (i := 2) def_cx (fun _ => rfl) sc_told.nd rfl (Or.inl rfl) (px_call (i := 1) FR hf hb hr rfl (Or.inl rfl))
        (ph_cons rfl Hd.m1 (by intro v E'; exact pss_one (ps_set (i := 2) sc_told.nd rfl (Or.inl rfl) (pe_lst (pa_cons (pgi rfl G2.oor) pa_nil))))
        (ph_cons rfl Hd.m2 (by intro v E'; exact pss_one (ps_set (i := 2) sc_told.nd rfl (Or.inl rfl) (pe_lst (pa_cons (pgi rfl G2.nf) pa_nil))))
        (ph_cons rfl Hd.m3 (by intro v E'; exact pss_one (ps_set (i := 2) sc_told.nd rfl (Or.inl rfl) (pe_lst (pa_cons (pgi rfl G2.naz) pa_nil))))
        (ph_cons rfl Hd.m4 (by intro v E'; exact pss_one (ps_set (i := 2) sc_told.nd rfl (Or.inl rfl) (pe_lst pa_nil))) ph_nil)))))
      (pss_one (ps_ret (pe_op op_catR (pmeth0 cA T.cl hr2 passN (pv 0)) (pv 2)))), ?_⟩
    -- behind the try
    have rest : ∀ (H1 : Hp) (l : Addr) (zs : List V) (qs : List (List Nat)) (D : Ends), D = { nx := fun _ H' => Q .non H', rt := Q } → H1 l = some (.lst zs) → zs.length ≤ 10000 → QueAt C g al ql H1 qs →
        (∀ H'' p, H'' p = some (.lst (.int (qs.length : Nat) :: (iv qs.flatten ++ zs))) → Q (.ref p) H'') →
        tRet (tOp rCatR (tMeth C "asked" (spAsked C) [] E (tVar 0) tNil) (tVar 2)) D [some (.ref g), some (.ref f), some (.ref l)] H1 := by
      rintro H1 l zs qs D rfl hl hz hQ hk
      obtain ⟨dx, hg⟩ := hQ.obj
      refine ⟨_, rfl, g, dx, _, rfl, hg, af_no _ _ (by decide +kernel) (by decide +kernel), g, al, ql, qs, rfl, hQ, fun H' m s1 hm hm' => ?_⟩
      refine ⟨_, rfl, m, l, _, zs, rfl, rfl, .inl hm', .inl (s1 _ _ hl), ?_, fun p hp => hk _ p ?_⟩
      · rw [List.length_cons, iv_len]
        have := hQ.size
        exact Nat.le_trans (Nat.add_le_add (Nat.add_le_add_right this 1) hz) (by decide)
      · rw [upd_same]
        rfl
    have new : ∀ (H1 : Hp) (z : List V) (l : Addr), H1 l = none → Same H1 (upd H1 l (.lst z)) := fun H1 z l hl => same_new hl
    refine ⟨rfl, k _ _ (fun v H' hv => ?_) fun c t H' hc => ?_⟩
    · obtain ⟨l, zs, qs, rfl, hl, hz, hQ, hk⟩ := hv
      exact rest H' l zs qs _ rfl hl hz hQ hk
    · obtain ⟨z, qs, hz, hQ, hk⟩ := hc
      rcases hz with ⟨rfl, rfl⟩ | ⟨rfl, rfl⟩ | ⟨rfl, rfl⟩ | ⟨rfl, rfl⟩
      · refine ⟨_, Hd.e11, iteT ?_⟩
        refine ⟨(by show 1 ≤ sizeLine; decide), fun l hl => ?_⟩
        exact rest _ l _ qs _ rfl upd_same (by decide) (hQ.same (same_new hl)) hk
      · refine ⟨_, Hd.e21, iteF ⟨_, Hd.e22, iteT ?_⟩⟩
        refine ⟨(by show 1 ≤ sizeLine; decide), fun l hl => ?_⟩
        exact rest _ l _ qs _ rfl upd_same (by decide) (hQ.same (same_new hl)) hk
      · refine ⟨_, Hd.e31, iteF ⟨_, Hd.e32, iteF ⟨_, Hd.e33, iteT ?_⟩⟩⟩
        refine ⟨(by show 1 ≤ sizeLine; decide), fun l hl => ?_⟩
        exact rest _ l _ qs _ rfl upd_same (by decide) (hQ.same (same_new hl)) hk
      · refine ⟨_, Hd.e41, iteF ⟨_, Hd.e42, iteF ⟨_, Hd.e43, iteF ⟨_, Hd.e44, iteT ?_⟩⟩⟩⟩
        refine ⟨(by show 0 ≤ sizeLine; decide), fun l hl => ?_⟩
        exact rest _ l _ qs _ rfl upd_same (by decide) (hQ.same (same_new hl)) hk
end
end Kr
set_option Elab.async false
set_option linter.all false
set_option maxRecDepth 100000
set_option maxHeartbeats 2000000
/-! THE PROGRAM, def by def: even. -/
namespace Kr
open PySem PySem.Spec PyProof.Rows L2
open Run (D64 dotO rowO mulAdd mulSub chk run toldOf ansOf)
def spBoth (X : Exs) (C : Addr) : Sp := fun vs H Q E => ∃ (g px py al ql : Addr) (A : List (List Nat)) (n : Nat) (qs : List (List Nat)) (xs ys : List Nat), vs = [.ref g, .ref px, .ref py] ∧ QueAt C g al ql H qs ∧ AnsAt al ql A n H ∧ RL H px xs ∧ RL H py ys ∧
  xs.length = n ∧ ys.length = n ∧ D64 xs ∧ D64 ys ∧ qs.length ≤ A.length ∧ Res X C g al ql H Q E (run A qs (Sv23.even xs ys))
section
variable {P : Program} {w : World} {K : PySem.W.Frag} {mg : Str → Option Value} {base : Heap} {f : Addr} {fd : FuncData}
abbrev cBoth (P : Program) (w : World) (K : PySem.W.Frag) (mg : Str → Option Value) (base : Heap) (X : Exs) (C : Addr) : Prop := Cal P w K mg base 5 "both_products" ["asking", "x", "y"] (spBoth X C)
theorem sc_both : FnScope ["asking", "x", "y", "first", "second"] ["asking", "x", "y"] (defScope s_both_products) := ⟨rfl, rfl, rfl, by decide +kernel, rfl, by decide +kernel, by decide +kernel⟩
theorem ok_both {X : Exs} {C : Addr} (F : Fun K "both_products" "both_products" s_both_products f fd) (T : Ask K mg C) (c1 : cDot P w K mg base (.ref X.NF)) (c2 : mAsk P w K mg base C (.ref X.NF) (.ref X.AW)) : FnOk P w K mg base (CXn P w) 5 f fd ["asking", "x", "y"] (spBoth X C) := by
  refine F.okN sc_both (fun vs H Q E h => ?_) (fun cdv A outer s H vs Q E hr h => ?_)
  · obtain ⟨g, px, py, al, ql, AA, n, qs, xs, ys, rfl, _⟩ := h
    rfl
  · obtain ⟨g, px, py, al, ql, AA, n, qs, xs, ys, rfl, hQ, hA, hx, hy, lx, ly, dx, dy, hle, R⟩ := h
    have hr3 : Room 3 _ := hr.mono (by decide)
    refine ⟨_, pss_cons (ps_set (i := 3) sc_both.nd rfl (Or.inl rfl) (pcal c1 hr passN rfl (pa_cons (pv 2) (pa_cons (pmeth c2 T.cl hr3 passN (pv 0) (pa_cons (pv 1) pa_nil)) pa_nil))))
      (pss_cons (ps_set (i := 4) sc_both.nd rfl (Or.inl rfl) (pcal c1 hr passN rfl (pa_cons (pv 1) (pa_cons (pmeth c2 T.cl hr3 passN (pv 0) (pa_cons (pv 2) pa_nil)) pa_nil))))
      (pss_one (ps_ret (pe_lst (pa_cons pe_int (pa_cons (pv 3) (pa_cons (pv 4) pa_nil))))))), ?_⟩
    have px0 : 0 < xs.length := by rw [lx]; exact hA.pos
    have py0 : 0 < ys.length := by rw [ly]; exact hA.pos
    obtain ⟨d0, hg⟩ := hQ.obj
    refine ⟨_, rfl, _, rfl, g, d0, _, rfl, hg, af_no _ _ (by decide +kernel) (by decide +kernel), _, rfl, [], g, px, al, ql, AA, n, qs, xs, rfl, (by simp), hQ, hA, hx, lx, hle, fun H1 k1 hQ1 hA1 => ⟨fun z => ?_, fun y z fz => ?_, fun y a z fz _ ha => ?_⟩⟩
    · exact R.want (Run.run_want z) k1 hQ1
    · exact R.bad (Run.run_bad z fz) k1 hQ1
    · have R1 : Res X C g al ql H1 Q E (run AA (qs ++ [xs]) (Run.onN (dotO ys y 0) fun a => Sv23.product ys fun q => Sv23.dot xs q fun b => .ret ⟨0, [a, b]⟩)) := by
        have R2 := R.kp k1
        have e : run AA qs (Sv23.even xs ys) = _ := Run.run_go z fz
        rw [e] at R2
        rw [← Run.dot_on]
        exact R2
      obtain ⟨hyl, hyd⟩ := hA.row y (List.mem_of_getElem? z)
      have hy1 := hQ.rl hy py0 k1
      have hx1 := hQ.rl hx px0 k1
      have lt : qs.length < AA.length := (List.getElem?_eq_some_iff.mp z).1
      refine ⟨py, a, ys, y, rfl, hy1, ha, by rw [ly, hyl], dy, hyd, fun v1 e1 H2 s2 => ?_, fun e1 H2 s2 => ?_⟩
      · rw [Run.onN_some e1] at R1
        have hQ2 := hQ1.same s2
        have hA2 := hA1.same s2
        obtain ⟨d1, hg2⟩ := hQ2.obj
        refine ⟨_, rfl, _, rfl, g, d1, _, rfl, hg2, af_no _ _ (by decide +kernel) (by decide +kernel), _, rfl, [], g, py, al, ql, AA, n, qs ++ [xs], ys, rfl, (by simp), hQ2, hA2, hy1.same s2, ly, ?_, fun H3 k3 hQ3 hA3 => ⟨fun z2 => ?_, fun y2 z2 fz2 => ?_, fun y2 a2 z2 fz2 _ ha2 => ?_⟩⟩
        · rw [List.length_append, List.length_singleton]
          omega
        · exact R1.want (Run.run_want z2) ((kp_same s2).trans k3) hQ3
        · exact R1.bad (Run.run_bad z2 fz2) ((kp_same s2).trans k3) hQ3
        · have R3 : Res X C g al ql H3 Q E (run AA (qs ++ [xs] ++ [ys]) (Run.onN (dotO xs y2 0) fun b => .ret ⟨0, [v1, b]⟩)) := by
            have R4 := R1.kp ((kp_same s2).trans k3)
            rw [Run.run_go z2 fz2] at R4
            rw [← Run.dot_on]
            exact R4
          obtain ⟨hyl2, hyd2⟩ := hA.row y2 (List.mem_of_getElem? z2)
          have hx3 := hQ2.rl (hx1.same s2) px0 k3
          refine ⟨px, a2, xs, y2, rfl, hx3, ha2, by rw [lx, hyl2], dx, hyd2, fun v2 e2 H4 s4 => ?_, fun e2 H4 s4 => ?_⟩
          · rw [Run.onN_some e2, Run.run_ret] at R3
            refine ⟨_, rfl, _, rfl, (by show 3 ≤ sizeLine; decide), fun l hl => ?_⟩
            exact R3.ret (n := 0) (l := [v1, v2]) rfl (kp_same (s4.trans (same_new hl))) (hQ3.same (s4.trans (same_new hl))) upd_same (by show 2 ≤ 9000; decide)
          · exact R3.bad (Run.run_badN e2 _) (kp_same s4) (hQ3.same s4)
      · exact R1.bad (Run.run_badN e1 _) (kp_same s2) (hQ1.same s2)
/-! ### even itself -/
abbrev s_reckon_even : Stmt := (defBody s_even).getD 1 (.Pass ⟨0, 0, 0, 0⟩)
def spRkE (X : Exs) (C : Addr) (vs : List V) : Sp := fun us H Q E => us = [] ∧ ∃ (g px py al ql : Addr) (n : Int) (A : List (List Nat)) (xs ys : List Nat), vs = [.ref g, .int n, .ref px, .ref py] ∧ QueAt C g al ql H [] ∧ RL H px xs ∧ RL H py ys ∧ D64 xs ∧ D64 ys ∧
  (1 ≤ n → n ≤ 4096 → ∃ m : Nat, n = m ∧ AnsAt al ql A m H ∧ xs.length = m ∧ ys.length = m) ∧ Res X C g al ql H Q E (Sv23.does (.even n xs ys) A)
theorem ok_rkE {X : Exs} {C : Addr} {clos : List (Str × Addr)} {qual : Str} {vs : List V} (c : CloAt base f fd qual (defArgs s_reckon_even) (defBody s_reckon_even) (defScope s_reckon_even) clos ["asking", "n", "x", "y"] vs) (G2 : Glo2 mg)
    (c1 : cRange P w K mg base (.ref X.OR)) (c2 : cRow P w K mg base (.ref X.NF)) (c3 : cBoth P w K mg base X C) : FnOk P w K mg base (CXn P w) 6 f fd [] (spRkE X C vs) := by
  refine clo_of c rfl rfl rfl (by decide +kernel) (by decide +kernel) (fun us H Q E h => by rw [h.1]; rfl) (fun cdv A outer s H Q E hr h => ?_)
  obtain ⟨_, g, px, py, al, ql, n, AA, xs, ys, rfl, hQ, hx, hy, dx, dy, hn, R⟩ := h
  have hr1 : Room 1 _ := hr.mono (by decide)
  have hr2 : Room 2 _ := hr.mono (by decide)
  refine ⟨_, pss_cons (ps_expr (pcal c1 hr1 (passE rfl) rfl (pa_cons (pv 1) (pa_cons pe_int (pa_cons (pgi rfl G2.most1) pa_nil)))))
    (pss_cons (ps_expr (pcal c2 hr2 (passE rfl) rfl (pa_cons (pv 2) pa_nil)))
    (pss_cons (ps_expr (pcal c2 hr2 (passE rfl) rfl (pa_cons (pv 3) pa_nil)))
    (pss_one (ps_ret (pcal c3 hr (passE rfl) rfl (pa_cons (pv 0) (pa_cons (pv 2) (pa_cons (pv 3) pa_nil)))))))), ?_⟩
  have er : Sv23.does (.even n xs ys) AA = run AA [] (Sv23.program (.even n xs ys)) := (Run.run_nil _).symm
  rw [er] at R
  refine ⟨_, rfl, n, 1, 4096, rfl, ?_⟩
  by_cases hin : n < 1 ∨ 4096 < n
  · rw [if_pos hin]
    have ep : Sv23.program (.even n xs ys) = .ret (Sv23.ok (-2)) := by
      show (if Sv23.within n 1 4096 = false then _ else _) = _
      rw [if_pos]
      unfold Sv23.within
      rw [Bool.and_eq_false_iff, decide_eq_false_iff_not, decide_eq_false_iff_not]
      omega
    rw [ep, Run.run_ret] at R
    exact R.range rfl Kp.refl hQ
  · rw [if_neg hin]
    obtain ⟨m, rfl, hA, lx, ly⟩ := hn (by omega) (by omega)
    have ep : Sv23.program (.even (m : Int) xs ys) = Sv23.needs (xs ++ ys) (Sv23.even xs ys) := by
      show (if Sv23.within m 1 4096 = false then _ else _) = _
      rw [if_neg]
      unfold Sv23.within
      rw [Bool.and_eq_false_iff, decide_eq_false_iff_not, decide_eq_false_iff_not]
      omega
    rw [ep] at R
    refine ⟨_, rfl, px, xs, rfl, hx, ?_⟩
    cases fx : xs.all Sv23.finite with
    | false =>
      rw [if_neg Bool.false_ne_true]
      rw [Run.needs_bad (by rw [List.all_append, fx]; rfl), Run.run_ret] at R
      exact R.bad rfl Kp.refl hQ
    | true =>
      rw [if_pos rfl]
      refine ⟨_, rfl, py, ys, rfl, hy, ?_⟩
      cases fy : ys.all Sv23.finite with
      | false =>
        rw [if_neg Bool.false_ne_true]
        rw [Run.needs_bad (by rw [List.all_append, fx, fy]; rfl), Run.run_ret] at R
        exact R.bad rfl Kp.refl hQ
      | true =>
        rw [if_pos rfl]
        rw [Run.needs_ok (by rw [List.all_append, fx, fy]; rfl)] at R
        exact ⟨_, rfl, _, rfl, _, rfl, g, px, py, al, ql, AA, m, [], xs, ys, rfl, hQ, hA, hx, hy, lx, ly, dx, dy, Nat.zero_le _, R⟩
def spEven (Pt : Addr) : Sp := fun vs H Q _ => ∃ (n : Int) (px py al : Addr) (A : List (List Nat)) (xs ys : List Nat), vs = [.int n, .ref px, .ref py, .ref al] ∧ H Pt = some (.tbl #[]) ∧ RL H px xs ∧ RL H py ys ∧ AnsIn al A H ∧ D64 xs ∧ D64 ys ∧ A.length ≤ 100 ∧
  (1 ≤ n → n ≤ 4096 → ∃ m : Nat, n = m ∧ 0 < m ∧ m ≤ 64 ∧ xs.length = m ∧ ys.length = m ∧ ∀ r ∈ A, r.length = m ∧ D64 r) ∧ ∀ H' p, H' p = some (.lst ((toldOf (Sv23.does (.even n xs ys) A)).map V.int)) → Q (.ref p) H'
theorem free_even : ∀ y ∈ (defScope s_reckon_even).names, y.2 = .free → (defScope s_even).names.lookup y.1 = some .cell := by decide +kernel
theorem sc_even : FnScope ["n", "x", "y", "answers", "asking", "reckon"] ["n", "x", "y", "answers"] (defScope s_even) := ⟨rfl, rfl, rfl, by decide +kernel, rfl, by decide +kernel, by decide +kernel⟩
theorem ok_even {X : Exs} {C fI ft c Pt : Addr} {fdI fdT : FuncData} (F : FunC K "even" "even" s_even f c fd) (G2 : Glo2 mg) (T : Ask K mg C) (Hd : Hnd K mg X) (M : Mk K C fI) (bI : Binds K fdI ["self", "answers"] []) (hI : FnOk P w K mg base (CXn P w) 1 fI fdI ["self", "answers"] (spInit C))
    (FT : Fun K "told" "told" s_told ft fdT) (mT : mg "told" = some (.ref ft)) (bT : Binds K fdT ["asking", "reckon"] []) (hC : PySem.W.CodeHd base c Pt) (hB : base.BuiltinsAt mg Pt)
    (c1 : ∀ base, cRange P w K mg base (.ref X.OR)) (c2 : ∀ base, cRow P w K mg base (.ref X.NF)) (c3 : ∀ base, cBoth P w K mg base X C) (c4 : ∀ base, mAsked P w K mg base C) : FnOk P w K mg base (CXn P w) 8 f fd ["n", "x", "y", "answers"] (spEven Pt) := by
  refine F.okN sc_even (fun vs H Q E h => ?_) (fun A outer s H vs Q E hr h => ?_)
  · obtain ⟨n, px, py, al, AA, xs, ys, rfl, _⟩ := h
    rfl
  · obtain ⟨n, px, py, al, AA, xs, ys, rfl, hP, hx, hy, hA, dx, dy, hfew, hn, k⟩ := h
    have hr2 : Room 2 _ := hr.mono (by decide)
    refine ⟨_, pss_cons (ps_set (i := 4) sc_even.nd rfl (Or.inr rfl) (pe_make M hI hr2 rfl T.mgC bI .nil passN (pa_cons (pv 3) pa_nil)))
      (pss_clo (E := E) (ir := 5) (ia := 4) (kR := 6) (kT := 7) (P := Pt) (Nc := ["asking", "n", "x", "y"]) (spR := spRkE X C) (spT := spTold X C) def_cx (fun _ => rfl) passN sc_even.nd rfl rfl rfl (Or.inr (Or.inl rfl)) (by decide) rfl rfl rfl free_even rfl hC hB (by decide +kernel)
        (fun _ _ _ _ _ => rfl) (by intro base' f' fd' clos vs' _ _ h; exact ok_rkE h G2 (c1 _) (c2 _) (c3 _)) (by intro base' f' fd' sp' _ _ h1 h2 h3; exact ok_told (by decide) FT G2 T Hd (c4 _) h1 h2 h3) bT hr rfl mT FT.kp), ?_⟩
    refine ⟨_, rfl, fun g d0 ng nd0 ne => ⟨g, d0, al, rfl, upd_same, fun H1 ql hql hg1 hq1 keep => ⟨rfl, ?_⟩⟩⟩
    have s1 : Same H H1 := fun b o e => keep b o (by rw [upd_ne (ne_of_none e ng), upd_ne (ne_of_none e nd0)]; exact e) (ne_of_none e ng)
    have hq0 : H ql = none := by
      cases q : H ql with
      | none => rfl
      | some o =>
        rw [upd_ne (ne_of_none q ng), upd_ne (ne_of_none q nd0), q] at hql
        cases hql
    have nPq : Pt ≠ ql := ne_of_none hP hq0
    have nPg : Pt ≠ g := ne_of_none hP ng
    refine ⟨#[], [.ref g, .int n, .ref px, .ref py], .ref g, s1 _ _ hP, trivial, rfl, rfl, rfl, fun i x hi => ?_, fun f' more hf' => ?_⟩
    · match i, hi with
      | 0, hi => cases hi; exact ⟨4, _, rfl, rfl, rfl⟩
      | 1, hi => cases hi; exact ⟨0, _, rfl, rfl, rfl⟩
      | 2, hi => cases hi; exact ⟨1, _, rfl, rfl, rfl⟩
      | 3, hi => cases hi; exact ⟨2, _, rfl, rfl, rfl⟩
      | i + 4, hi => simp at hi
    · obtain ⟨rl2, an2, hQ2⟩ := grown (more := more) hP s1 hg1 hq1 nPg nPq
      refine ⟨g, al, ql, rfl, fun Q' E' hQ' hE' => ⟨rfl, g, px, py, al, ql, n, AA, xs, ys, rfl, hQ2, rl2 hx, rl2 hy, dx, dy, fun n1 n2 => ?_, res_told k Q' E' hQ' hE'⟩⟩
      obtain ⟨m, em, m1, m2, lx, ly, hrow⟩ := hn n1 n2
      obtain ⟨ha2, naq⟩ := an2 hA hq0
      exact ⟨m, em, ⟨ha2, naq, m1, m2, hrow, hfew⟩, lx, ly⟩
end
end Kr
set_option Elab.async false
set_option linter.all false
set_option maxRecDepth 100000
set_option maxHeartbeats 2000000
/-! What the top has written. -/
namespace Kr
open PySem PySem.Spec PyProof.Rows L2
open PySem.W (WData)
open Run (D64 Dbls)
def DefAt (K : PySem.W.Frag) (mg : Str → Option Value) (x : Str) (st : Stmt) : Prop := ∃ f fd, mg x = some (.ref f) ∧ Fun K x x st f fd
def MethAt (K : PySem.W.Frag) (C : Addr) (m qual : Str) (st : Stmt) : Prop := ∃ f fd, Meth K C m f ∧ Fun K m qual st f fd
section
variable {P : Program} {w : World} {K : PySem.W.Frag} {h : Heap} {mg : Str → Option Value} {x : Str} {st : Stmt} {f C : Addr}
theorem def_mk {oc kV doc pm cdv ct : Value} {od an : Option Addr} {osl : Array (Option Value)} (X : K.In h) (G : h.Ns mainGlobals mg) (a : PySem.W.nsIn K mainGlobals x = some (some (.ref f)))
    (l : K.lookup f = some ⟨oc, od, .func (PySem.W.fnOf x x (defArgs st) (defBody st) (defScope st) .none kV doc pm an cdv ct), osl⟩) (c : PySem.W.codeIn K cdv x = true) (k : PySem.W.keepIn K (.ref f) = true) : DefAt K mg x st :=
  ⟨f, _, PySem.W.mg_of X G a, fun_mk (st := st) l c k⟩
theorem meth_mk {m qual : Str} {oc kV doc pm cdv ct : Value} {od an : Option Addr} {osl : Array (Option Value)} (a : PySem.W.findIn K (.ref C) m = some (some (.ref f))) (i : PySem.W.isFn K (.ref f) = true)
    (l : K.lookup f = some ⟨oc, od, .func (PySem.W.fnOf m qual (defArgs st) (defBody st) (defScope st) .none kV doc pm an cdv ct), osl⟩) (c : PySem.W.codeIn K cdv qual = true) (k : PySem.W.keepIn K (.ref f) = true) : MethAt K C m qual st :=
  ⟨f, _, ⟨a, i, k⟩, fun_mk (st := st) l c k⟩
theorem gi_mk {i : Int} {t : Tok} (X : K.In h) (G : h.Ns mainGlobals mg) (a : PySem.W.nsIn K mainGlobals x = some (some (.int i t))) : GI mg x i := ⟨t, PySem.W.mg_of X G a⟩
theorem cal_mk {base : Heap} {k : Nat} {ps : List Str} {sp : Sp} (D : DefAt K mg x st)
    (b : ∀ (kV doc pm : Value) (an : Option Addr) (cdv ct : Value) (us : List Value), us.length = ps.length → bindArgs (PySem.W.fnOf x x (defArgs st) (defBody st) (defScope st) .none kV doc pm an cdv ct) ⟨us, []⟩ = pure (ps.zip us))
    (ok : ∀ f fd, Fun K x x st f fd → FnOk P w K mg base (CXn P w) k f fd ps sp) : Cal P w K mg base k x ps sp := by
  obtain ⟨f, fd, h1, F⟩ := D
  exact ⟨f, fd, h1, F.kp, F.binds b, ok f fd F⟩
theorem mcal_mk {base : Heap} {k : Nat} {ps : List Str} {sp : Sp} {m qual : Str} (D : MethAt K C m qual st)
    (b : ∀ (kV doc pm : Value) (an : Option Addr) (cdv ct : Value) (us : List Value), us.length = ps.length → bindArgs (PySem.W.fnOf m qual (defArgs st) (defBody st) (defScope st) .none kV doc pm an cdv ct) ⟨us, []⟩ = pure (ps.zip us))
    (ok : ∀ f fd, Fun K m qual st f fd → FnOk P w K mg base (CXn P w) k f fd ps sp) : Mcal P w K mg base k C m ps sp := by
  obtain ⟨f, fd, h1, F⟩ := D
  exact ⟨f, fd, h1, F.binds b, ok f fd F⟩
end
theorem hnd_mk {K : PySem.W.Frag} {mg : Str → Option Value} {OR NF AZ AW : Addr} (m1 : mg "OutOfRange" = some (.ref OR)) (m2 : mg "NotFinite" = some (.ref NF)) (m3 : mg "NotAboveZero" = some (.ref AZ)) (m4 : mg "AnswerWanting" = some (.ref AW))
    (e11 : PySem.W.exmOne K (.ref OR) (.ref OR) = some true) (e21 : PySem.W.exmOne K (.ref NF) (.ref OR) = some false) (e22 : PySem.W.exmOne K (.ref NF) (.ref NF) = some true) (e31 : PySem.W.exmOne K (.ref AZ) (.ref OR) = some false) (e32 : PySem.W.exmOne K (.ref AZ) (.ref NF) = some false)
    (e33 : PySem.W.exmOne K (.ref AZ) (.ref AZ) = some true) (e41 : PySem.W.exmOne K (.ref AW) (.ref OR) = some false) (e42 : PySem.W.exmOne K (.ref AW) (.ref NF) = some false) (e43 : PySem.W.exmOne K (.ref AW) (.ref AZ) = some false) (e44 : PySem.W.exmOne K (.ref AW) (.ref AW) = some true) :
    Hnd K mg ⟨OR, NF, AZ, AW⟩ := ⟨m1, m2, m3, m4, e11, e21, e22, e31, e32, e33, e41, e42, e43, e44⟩
/-! ### the request -/
theorem ints_iv {l : List Int} (h : Dbls l) : l.map V.int = iv (Sv23Neutral.nats l) := by
  unfold Sv23Neutral.nats
  rw [iv, List.map_map]
  refine List.map_congr_left fun z hz => ?_
  have := (h z hz).1
  show V.int z = V.int ((z.toNat : Nat) : Int)
  rw [Int.toNat_of_nonneg this]
theorem row_dw {K : PySem.W.Frag} {H : Hp} {v : V} {l : List Int} (n : noLst K = true) (h : Dbls l) (d : Dw K H v (.list (l.map WData.int))) : ∃ p, v = .ref p ∧ RL H p (Sv23Neutral.nats l) := by
  cases d with
  | lst hs ha =>
    have e := ints_dw l _ ha
    subst e
    have r := noLst_of n hs
    rw [ints_iv h] at r
    exact ⟨_, rfl, r⟩
theorem rows_dw {K : PySem.W.Frag} {H : Hp} (n : noLst K = true) : ∀ (rs : List (List Int)) (vs : List V), (∀ l ∈ rs, Dbls l) → DwAll K H vs (rs.map fun l => WData.list (l.map WData.int)) → ∃ as : List Addr, vs = as.map V.ref ∧ RowsAt [] H as (rs.map Sv23Neutral.nats)
  | [], vs, _, h => by
    cases h
    exact ⟨[], rfl, .nil⟩
  | l :: rs, vs, hd, h => by
    cases h with
    | cons h1 h2 =>
      obtain ⟨p, rfl, r⟩ := row_dw n (hd l List.mem_cons_self) h1
      obtain ⟨as, rfl, rr⟩ := rows_dw n rs _ (fun l hl => hd l (List.mem_cons_of_mem _ hl)) h2
      exact ⟨p :: as, rfl, .cons (by simp) r rr⟩
theorem ans_dw {K : PySem.W.Frag} {H : Hp} {v : V} {rs : List (List Int)} (n : noLst K = true) (hd : ∀ l ∈ rs, Dbls l) (d : Dw K H v (.list (rs.map fun l => WData.list (l.map WData.int)))) : ∃ al, v = .ref al ∧ AnsIn al (rs.map Sv23Neutral.nats) H := by
  cases d with
  | lst hs ha =>
    obtain ⟨as, rfl, rr⟩ := rows_dw n rs _ hd ha
    exact ⟨_, rfl, as, noLst_of n hs, rr⟩
end Kr
set_option Elab.async false
set_option linter.all false
set_option maxRecDepth 100000
set_option maxHeartbeats 2000000
namespace Kr
open PySem PySem.Spec PyProof.Rows L2
open PySem.W (WData)
open Run (D64 Dbls)
theorem all_even {P : Program} {w : World} {K : PySem.W.Frag} {h : Heap} {mg : Str → Option Value} {OR NF AZ AW C fI fa c Pt : Addr} {fdI : FuncData} (KX : K.In h) (hfa : mg "even" = some (.ref fa)) (hc : ∃ a o fdn, mg "even" = some (.ref a) ∧ h.get? a = some o ∧ o.data = .func fdn ∧ fdn.code = .ref c)
    (G : Glo mg) (G2 : Glo2 mg)  (T : Ask K mg C) (Hd : Hnd K mg ⟨OR, NF, AZ, AW⟩) (M : Mk K C fI) (FI : Fun K "__init__" "Asking.__init__" s_Asking_init fI fdI) (tN : ExcC K mg "NotFinite" NF) (tO : ExcC K mg "OutOfRange" OR) (tW : ExcC K mg "AnswerWanting" AW)
    (d_ask : MethAt K C "ask" "Asking.ask" s_Asking_ask) (d_asked : MethAt K C "asked" "Asking.asked" s_Asking_asked)
    (d_check_finite : DefAt K mg "check_finite" s_check_finite) (d_mantissa_of : DefAt K mg "mantissa_of" s_mantissa_of) (d_exponent_of : DefAt K mg "exponent_of" s_exponent_of) (d_without_low_bits : DefAt K mg "without_low_bits" s_without_low_bits) (d_rounded : DefAt K mg "rounded" s_rounded) (d_signed_mantissa : DefAt K mg "signed_mantissa" s_signed_mantissa) (d_plus : DefAt K mg "plus" s_plus) (d_times : DefAt K mg "times" s_times) (d_row_after_row : DefAt K mg "row_after_row" s_row_after_row) (d_told : DefAt K mg "told" s_told) (d_check_range : DefAt K mg "check_range" s_check_range) (d_check_row : DefAt K mg "check_row" s_check_row) (d_dot : DefAt K mg "dot" s_dot) (d_both_products : DefAt K mg "both_products" s_both_products) (d_even : DefAt K mg "even" s_even) :
    ∃ fd : FuncData, (∀ (s : Shared) (us : List Value), us.length = (["n", "x", "y", "answers"] : List Str).length → BindsTo s fd ⟨us, []⟩ ((["n", "x", "y", "answers"] : List Str).zip us)) ∧
      ∀ base : Heap, K.In base → base.Ns mainGlobals mg → PySem.W.CodeHd base c Pt → base.BuiltinsAt mg Pt → FnOk P w K mg base (CXn P w) 8 fa fd ["n", "x", "y", "answers"] (spEven Pt) := by
  obtain ⟨X, hX⟩ : ∃ X : Exs, X = ⟨OR, NF, AZ, AW⟩ := ⟨_, rfl⟩
  rw [← hX] at Hd
  have tN : ExcC K mg "NotFinite" X.NF := by rw [hX]; exact tN
  have tO : ExcC K mg "OutOfRange" X.OR := by rw [hX]; exact tO
  have tW : ExcC K mg "AnswerWanting" X.AW := by rw [hX]; exact tW
  clear hX
  have k_check_finite : ∀ base, cFin P w K mg base (.ref X.NF) := fun base => cal_mk d_check_finite (fun _ _ _ _ _ _ us hl => match us, hl with | [_], _ => rfl) fun f fd F => ok_fin F G tN
  have k_mantissa_of : ∀ base, cMan P w K mg base := fun base => cal_mk d_mantissa_of (fun _ _ _ _ _ _ us hl => match us, hl with | [_], _ => rfl) fun f fd F => ok_man F G
  have k_exponent_of : ∀ base, cExp P w K mg base := fun base => cal_mk d_exponent_of (fun _ _ _ _ _ _ us hl => match us, hl with | [_], _ => rfl) fun f fd F => ok_exp F G
  have k_without_low_bits : ∀ base, Cal P w K mg base 1 "without_low_bits" ["mantissa", "dropped"] spNear := fun base => cal_mk d_without_low_bits (fun _ _ _ _ _ _ us hl => match us, hl with | [_, _], _ => rfl) fun f fd F => ok_wlb F
  have k_rounded : ∀ base, cRnd P w K mg base (.ref X.NF) := fun base => cal_mk d_rounded (fun _ _ _ _ _ _ us hl => match us, hl with | [_, _, _], _ => rfl) fun f fd F => ok_rnd F G tN (k_without_low_bits base)
  have k_signed_mantissa : ∀ base, cSm P w K mg base := fun base => cal_mk d_signed_mantissa (fun _ _ _ _ _ _ us hl => match us, hl with | [_], _ => rfl) fun f fd F => ok_sm F G (k_mantissa_of base)
  have k_plus : ∀ base, cPlus P w K mg base (.ref X.NF) := fun base => cal_mk d_plus (fun _ _ _ _ _ _ us hl => match us, hl with | [_, _], _ => rfl) fun f fd F => ok_plus F G (k_exponent_of base) (k_signed_mantissa base) (k_rounded base)
  have k_times : ∀ base, cTimes P w K mg base (.ref X.NF) := fun base => cal_mk d_times (fun _ _ _ _ _ _ us hl => match us, hl with | [_, _], _ => rfl) fun f fd F => ok_times F G (k_exponent_of base) (k_mantissa_of base) (k_rounded base)
  have k_row_after_row : ∀ base, cRaft P w K mg base := fun base => cal_mk d_row_after_row (fun _ _ _ _ _ _ us hl => match us, hl with | [_], _ => rfl) fun f fd F => ok_raft F
  have k_check_range : ∀ base, cRange P w K mg base (.ref X.OR) := fun base => cal_mk d_check_range (fun _ _ _ _ _ _ us hl => match us, hl with | [_, _, _], _ => rfl) fun f fd F => ok_range F tO
  have k_check_row : ∀ base, cRow P w K mg base (.ref X.NF) := fun base => cal_mk d_check_row (fun _ _ _ _ _ _ us hl => match us, hl with | [_], _ => rfl) fun f fd F => ok_row F (k_check_finite base)
  have k_dot : ∀ base, cDot P w K mg base (.ref X.NF) := fun base => cal_mk d_dot (fun _ _ _ _ _ _ us hl => match us, hl with | [_, _], _ => rfl) fun f fd F => ok_dot F G2 (k_plus base) (k_times base)
  have k_ask : ∀ base, mAsk P w K mg base C (.ref X.NF) (.ref X.AW) := fun base => mcal_mk d_ask (fun _ _ _ _ _ _ us hl => match us, hl with | [_, _], _ => rfl) fun f fd F => ok_ask F G2 T tW (k_check_row base)
  have k_both_products : ∀ base, cBoth P w K mg base X C := fun base => cal_mk d_both_products (fun _ _ _ _ _ _ us hl => match us, hl with | [_, _, _], _ => rfl) fun f fd F => ok_both F T (k_dot base) (k_ask base)
  have k_asked : ∀ base, mAsked P w K mg base C := fun base => mcal_mk d_asked (fun _ _ _ _ _ _ us hl => match us, hl with | [_], _ => rfl) fun f fd F => ok_asked F G2 T (k_row_after_row base)
  have bI := FI.binds (ps := ["self", "answers"]) fun _ _ _ _ _ _ us hl => match us, hl with | [_, _], _ => rfl
  obtain ⟨ft, fdT, mT, FT⟩ := d_told
  have bT := FT.binds (ps := ["asking", "reckon"]) fun _ _ _ _ _ _ us hl => match us, hl with | [_, _], _ => rfl
  obtain ⟨fe, fdE, mE, FE⟩ := d_even
  have e1 : fa = fe := Value.ref.inj (Option.some.inj (hfa.symm.trans mE))
  subst e1
  obtain ⟨a, o, fdn, h1, h2, h3, h4⟩ := hc
  have FC := FE.code KX (Value.ref.inj (Option.some.inj (h1.symm.trans mE))) h2 h3 h4
  refine ⟨fdE, fun s us hu => ?_, fun base _ _ hC hB => ok_even FC G2 T Hd M bI (ok_init FI T) FT mT bT hC hB k_check_range k_check_row k_both_products k_asked⟩
  obtain ⟨oc, od, kV, doc, pm, an, cdv, ct, osl, rfl, _, _⟩ := FE.ex
  match us, hu with
  | [_, _, _, _], _ => exact .of_eq rfl
end Kr
set_option Elab.async false
set_option linter.all false
set_option maxRecDepth 100000
set_option maxHeartbeats 2000000
namespace Kr
open PySem PySem.Spec PyProof.Rows L2
open PySem.W (WData)
open Run (D64 Dbls)
theorem ask_even {K : PySem.W.Frag} {H : Hp} {Pt : Addr} {xs : List V} {n : Int} {x y : List Int} {an : List (List Int)} (hP : H Pt = some (.tbl #[])) (hno : noLst K = true) (hask : PySv23.even_asked n x y an = true)
    (hx : DwAll K H xs [.int n, .list (x.map WData.int), .list (y.map WData.int), .list (an.map fun l => WData.list (l.map WData.int))]) : spEven Pt xs H (fun v H' => Dw K H' v (.list ((PySv23.even n x y an).map WData.int))) fun _ _ _ => False := by
  obtain ⟨q1, q2, q3, q4⟩ := Run.even_ask hask
  cases hx with
  | cons h1 hx =>
    cases h1
    cases hx with
    | cons h2 hx =>
      cases hx with
      | cons h3 hx =>
        cases hx with
        | cons h4 hx =>
          cases hx
          obtain ⟨d2, l2⟩ := Run.row_ok q2
          obtain ⟨d3, l3⟩ := Run.row_ok q3
          obtain ⟨l4, d4⟩ := Run.answers_ok q4
          obtain ⟨px, rfl, rx⟩ := row_dw hno d2 h2
          obtain ⟨py, rfl, ry⟩ := row_dw hno d3 h3
          obtain ⟨al, rfl, ra⟩ := ans_dw hno (fun l hl => (d4 l hl).1) h4
          refine ⟨n, px, py, al, _, _, _, rfl, hP, rx, ry, ra, Run.nats_d64 d2, Run.nats_d64 d3, by rw [List.length_map]; exact l4, fun n1 n2 => ?_, fun H' p hp => ?_⟩
          · have n64 := Run.few_ok q1 n1 n2
            have e2 := l2 n1 n2
            have e3 := l3 n1 n2
            refine ⟨n.toNat, by omega, by omega, by omega, ?_, ?_, Run.rows_ok q4 (by omega)⟩
            · rw [Run.nats_len]
              omega
            · rw [Run.nats_len]
              omega
          · rw [← Run.even_told] at hp
            exact .lst (SqL.of hp) (dw_ints _)
end Kr
open PySem PySem.W PyProof.Rows
set_option maxRecDepth 100000 in
set_option maxHeartbeats 0 in
theorem PySem.Challenge.cw_askedproducts_s05_even_holds : PySem.Challenge.rw_askedproducts_s05_even.Holds := by
  w_on; k_headS; (case hw => exact ⟨[.int 0, .list [], .list [], .list []], by decide +kernel, by decide +kernel⟩)
  k_fillS
  refine L2.walk_specT (r := PySem.Challenge.rw_askedproducts_s05_even) (k := 8) (CX := fun w => L2.CXn PySem.Challenge.pw_askedproducts_s05_even w) (ps := ["n", "x", "y", "answers"]) (sp := fun _ Pt => Kr.spEven Pt) "even" (by decide +kernel) rfl rfl ⟨rfl, by decide, by decide⟩ (by decide +kernel) (fun _ => by kernel_rfl) (fun _ => by kernel_rfl) (fun w h Y => PySem.W.kIn_of Y) ?F ?S (fun _ _ _ _ _ z => L2.noCXn z)
  case F =>
    intro w mg fa c Pt h Y KX G hmg hc
    refine' Kr.all_even KX hmg hc ?kq1 ?kq2 ?kq3 ?kq4 ?kq5 ?kq6 ?kq7 ?kq8 ?kq9 ?kq10 ?kq11 ?kq12 ?kq13 ?kq14 ?kq15 ?kq16 ?kq17 ?kq18 ?kq19 ?kq20 ?kq21 ?kq22 ?kq23 ?kq24 ?kq25 ?kq26
    (case kq1 => refine' ⟨Kr.gi_mk KX G ?kq27, Kr.gi_mk KX G ?kq28, Kr.gi_mk KX G ?kq29, Kr.gi_mk KX G ?kq30, Kr.gi_mk KX G ?kq31, Kr.gi_mk KX G ?kq32, PySem.W.mg_none_of KX G ?kq33, PySem.W.mg_none_of KX G ?kq34, PySem.W.mg_none_of KX G ?kq35⟩; (case kq27 => k_is); (case kq28 => k_is); (case kq29 => k_is); (case kq30 => k_is); (case kq31 => k_is); (case kq32 => k_is); (case kq33 => k_is); (case kq34 => k_is); (case kq35 => k_is))
    (case kq2 => refine' ⟨Kr.gi_mk KX G ?kq36, Kr.gi_mk KX G ?kq37, Kr.gi_mk KX G ?kq38, Kr.gi_mk KX G ?kq39, Kr.gi_mk KX G ?kq40, PySem.W.mg_none_of KX G ?kq41, PySem.W.mg_none_of KX G ?kq42⟩; (case kq36 => k_is); (case kq37 => k_is); (case kq38 => k_is); (case kq39 => k_is); (case kq40 => k_is); (case kq41 => k_is); (case kq42 => k_is))
    (case kq7 => refine' ⟨PySem.W.mg_of KX G ?kq43, ?kq44⟩; (case kq43 => k_is); (case kq44 => kernel_rfl))
    (case kq8 => refine' ⟨PySem.W.mg_of KX G ?kq45, ?kq46⟩; (case kq45 => k_is); (case kq46 => kernel_rfl))
    (case kq9 => refine' ⟨PySem.W.mg_of KX G ?kq47, ?kq48⟩; (case kq47 => k_is); (case kq48 => kernel_rfl))
    (case kq3 => refine' ⟨⟨?kq49, ?kq50, ?kq51, ?kq52⟩, ?kq53, ?kq54, PySem.W.mg_of KX G ?kq55⟩; (case kq55 => k_is); (case kq49 => k_is); (case kq50 => k_is); (case kq51 => k_is); (case kq52 => k_is); (case kq53 => (show PySem.W.findIn _ _ _ = some none; k_is)); (case kq54 => (show PySem.W.findIn _ _ _ = some none; k_is)))
    (case kq4 => refine' Kr.hnd_mk (PySem.W.mg_of KX G ?kq56) (PySem.W.mg_of KX G ?kq57) (PySem.W.mg_of KX G ?kq58) (PySem.W.mg_of KX G ?kq59) ?kq60 ?kq61 ?kq62 ?kq63 ?kq64 ?kq65 ?kq66 ?kq67 ?kq68 ?kq69; (case kq56 => k_is); (case kq57 => k_is); (case kq58 => k_is); (case kq59 => k_is); (case kq60 => kernel_rfl); (case kq61 => kernel_rfl); (case kq62 => kernel_rfl); (case kq63 => kernel_rfl); (case kq64 => kernel_rfl); (case kq65 => kernel_rfl); (case kq66 => kernel_rfl); (case kq67 => kernel_rfl); (case kq68 => kernel_rfl); (case kq69 => kernel_rfl))
    (case kq5 => refine' ⟨?kq70, ?kq71, ?kq72, ?kq73⟩; (case kq70 => k_is); (case kq71 => k_is); (case kq72 => k_is); (case kq73 => k_is))
    (case kq6 => refine' L2.fun_mk ?kq74 ?kq75 ?kq76; (case kq74 => k_is); (case kq75 => k_is); (case kq76 => k_is))
    (case kq10 => refine' Kr.meth_mk ?kq77 ?kq78 ?kq79 ?kq80 ?kq81; (case kq77 => k_is); (case kq78 => k_is); (case kq79 => k_is); (case kq80 => k_is); (case kq81 => k_is))
    (case kq11 => refine' Kr.meth_mk ?kq82 ?kq83 ?kq84 ?kq85 ?kq86; (case kq82 => k_is); (case kq83 => k_is); (case kq84 => k_is); (case kq85 => k_is); (case kq86 => k_is))
    (case kq12 => refine' Kr.def_mk KX G ?kq87 ?kq88 ?kq89 ?kq90; (case kq87 => k_is); (case kq88 => k_is); (case kq89 => k_is); (case kq90 => k_is))
    (case kq13 => refine' Kr.def_mk KX G ?kq91 ?kq92 ?kq93 ?kq94; (case kq91 => k_is); (case kq92 => k_is); (case kq93 => k_is); (case kq94 => k_is))
    (case kq14 => refine' Kr.def_mk KX G ?kq95 ?kq96 ?kq97 ?kq98; (case kq95 => k_is); (case kq96 => k_is); (case kq97 => k_is); (case kq98 => k_is))
    (case kq15 => refine' Kr.def_mk KX G ?kq99 ?kq100 ?kq101 ?kq102; (case kq99 => k_is); (case kq100 => k_is); (case kq101 => k_is); (case kq102 => k_is))
    (case kq16 => refine' Kr.def_mk KX G ?kq103 ?kq104 ?kq105 ?kq106; (case kq103 => k_is); (case kq104 => k_is); (case kq105 => k_is); (case kq106 => k_is))
    (case kq17 => refine' Kr.def_mk KX G ?kq107 ?kq108 ?kq109 ?kq110; (case kq107 => k_is); (case kq108 => k_is); (case kq109 => k_is); (case kq110 => k_is))
    (case kq18 => refine' Kr.def_mk KX G ?kq111 ?kq112 ?kq113 ?kq114; (case kq111 => k_is); (case kq112 => k_is); (case kq113 => k_is); (case kq114 => k_is))
    (case kq19 => refine' Kr.def_mk KX G ?kq115 ?kq116 ?kq117 ?kq118; (case kq115 => k_is); (case kq116 => k_is); (case kq117 => k_is); (case kq118 => k_is))
    (case kq20 => refine' Kr.def_mk KX G ?kq119 ?kq120 ?kq121 ?kq122; (case kq119 => k_is); (case kq120 => k_is); (case kq121 => k_is); (case kq122 => k_is))
    (case kq21 => refine' Kr.def_mk KX G ?kq123 ?kq124 ?kq125 ?kq126; (case kq123 => k_is); (case kq124 => k_is); (case kq125 => k_is); (case kq126 => k_is))
    (case kq22 => refine' Kr.def_mk KX G ?kq127 ?kq128 ?kq129 ?kq130; (case kq127 => k_is); (case kq128 => k_is); (case kq129 => k_is); (case kq130 => k_is))
    (case kq23 => refine' Kr.def_mk KX G ?kq131 ?kq132 ?kq133 ?kq134; (case kq131 => k_is); (case kq132 => k_is); (case kq133 => k_is); (case kq134 => k_is))
    (case kq24 => refine' Kr.def_mk KX G ?kq135 ?kq136 ?kq137 ?kq138; (case kq135 => k_is); (case kq136 => k_is); (case kq137 => k_is); (case kq138 => k_is))
    (case kq25 => refine' Kr.def_mk KX G ?kq139 ?kq140 ?kq141 ?kq142; (case kq139 => k_is); (case kq140 => k_is); (case kq141 => k_is); (case kq142 => k_is))
    (case kq26 => refine' Kr.def_mk KX G ?kq143 ?kq144 ?kq145 ?kq146; (case kq143 => k_is); (case kq144 => k_is); (case kq145 => k_is); (case kq146 => k_is))
  case S =>
    intro w Pt H xs a hP hno hwi hask hx
    exact Kr.ask_even hP hno hask hx
#print axioms PySem.Challenge.cw_askedproducts_s05_even_holds
