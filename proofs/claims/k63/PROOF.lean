import PyProof.Rows.All
import Wide.All
import OpenK.AllK
import Wide.FinOn
import PyProof.EqAt
import PyProof.EqKinds
import PyProof.TupleCall
import KE.BitLaws
import PyProof.Rows.InDataRows
import PyProof.FactsAll.tuple_2
import PyProof.FactsAll.tuple_3
import KE.KLam
import KE.KIsAll
import PyProof.ExcArgsOwn
import PyProof.ExcAttrAll.ValueError
import PyProof.Rows.FStr
import PyProof.FString
import PyProof.TupleOfStr
import PyProof.ListRange
import PySem.Challenge.RW_sumhues_k63_refused_with_two_rows
set_option Elab.async false
set_option linter.all false
set_option maxRecDepth 100000
namespace L2
open PySem PySem.Spec PyProof.Rows
abbrev Key := Sum Int Str
def keyIs : Key → Value → Bool
  | .inl k, v => Value.isInt k v
  | .inr x, v => Value.isStrOf x v
def keyH (w : World) : Key → Int
  | .inl k => hashInt k
  | .inr x => hashStr w x
theorem keyIs_shape : ∀ {k : Key} {v : Value}, keyIs k v = true → (∃ i t, k = Sum.inl i ∧ v = Value.int i t) ∨ (∃ x t, k = Sum.inr x ∧ v = Value.str x t)
  | .inl i, v, h => by
    obtain ⟨t, e⟩ := Value.isInt_shape (k := i) (v := v) h
    exact .inl ⟨i, t, rfl, e⟩
  | .inr x, v, h => by
    obtain ⟨t, e⟩ := Value.isStrOf_shape (x := x) (v := v) h
    exact .inr ⟨x, t, rfl, e⟩
theorem key_ll (a b : Int) : decide ((Sum.inl a : Key) = Sum.inl b) = (a == b) := by
  by_cases e : a = b
  · subst e; simp
  · have h : ¬ (Sum.inl a : Key) = Sum.inl b := fun q => e (Sum.inl.inj q)
    rw [decide_eq_false h]
    exact (beq_eq_false_iff_ne.mpr e).symm
theorem key_rr (a b : Str) : decide ((Sum.inr a : Key) = Sum.inr b) = decide (a = b) := by
  by_cases e : a = b
  · subst e; simp
  · have h : ¬ (Sum.inr a : Key) = Sum.inr b := fun q => e (Sum.inr.inj q)
    rw [decide_eq_false h, decide_eq_false e]
theorem key_lr (a : Int) (b : Str) : decide ((Sum.inl a : Key) = Sum.inr b) = false := decide_eq_false (fun q => nomatch q)
theorem key_rl (a : Str) (b : Int) : decide ((Sum.inr a : Key) = Sum.inl b) = false := decide_eq_false (fun q => nomatch q)
def mixKind (prog : Program) (w : World) : PySem.KeyKind prog w Key where
  is := keyIs
  hash := keyH w
  inj := fun v a b ha hb => by
    rcases keyIs_shape ha with ⟨i, t, rfl, rfl⟩ | ⟨x, t, rfl, rfl⟩
    · rcases keyIs_shape hb with ⟨j, u, rfl, e⟩ | ⟨y, u, rfl, e⟩
      · injection e with e1 _; rw [e1]
      · exact nomatch e
    · rcases keyIs_shape hb with ⟨j, u, rfl, e⟩ | ⟨y, u, rfl, e⟩
      · exact nomatch e
      · injection e with e1 _; rw [e1]
  byValue := fun k v h => by
    rcases keyIs_shape h with ⟨i, t, rfl, rfl⟩ | ⟨x, t, rfl, rfl⟩ <;> rfl
  pyHash := fun hv h => by
    rcases keyIs_shape hv with ⟨i, t, rfl, rfl⟩ | ⟨x, t, rfl, rfl⟩
    · exact wpAny_pyHash_int h
    · exact wpAny_pyHash_str h
  eqBool := fun hu hv h => by
    rcases keyIs_shape hu with ⟨i, t, rfl, rfl⟩ | ⟨x, t, rfl, rfl⟩
    · rcases keyIs_shape hv with ⟨j, u, rfl, rfl⟩ | ⟨y, u, rfl, rfl⟩
      · rw [key_ll] at h; exact wpAny_eqBool_int h
      · rw [key_lr] at h; exact SeqAt.EqAt.int_str i t y u _ _ _ _ h
    · rcases keyIs_shape hv with ⟨j, u, rfl, rfl⟩ | ⟨y, u, rfl, rfl⟩
      · rw [key_rl] at h; exact SeqAt.EqAt.str_int x t j u _ _ _ _ h
      · rw [key_rr] at h; exact wpAny_eqBool_str h
  «strs» := fun k x t v h => by
    rcases keyIs_shape h with ⟨i, u, rfl, e⟩ | ⟨y, u, rfl, e⟩
    · exact nomatch e
    · injection e with e1 _
      subst e1
      cases v <;> rfl
end L2
namespace L2
open PySem PySem.Spec PyProof.Rows
inductive V where
  | non | bl (b : Bool) | int (i : Int) | str (x : Str) | byt (b : Array UInt8) | flt (b : UInt64) | ref (a : Addr) | ty (n : String)
  deriving DecidableEq
def RelV : V → Value → Prop
  | .non, u => u = Value.none
  | .bl b, u => u = Value.bool b
  | .int i, u => ∃ t, u = Value.int i t
  | .str x, u => ∃ t, u = Value.str x t
  | .byt b, u => ∃ t, u = Value.bytes b t
  | .flt b, u => ∃ t, u = Value.float b t
  | .ref a, u => u = Value.ref a
  | .ty n, u => u = Value.type n
abbrev Vals : List V → List Value → Prop := Paired RelV
theorem Vals.length {xs : List V} {us : List Value} (r : Vals xs us) : xs.length = us.length := Paired.length r
theorem Vals.get : ∀ {xs : List V} {us : List Value} {i : Nat} {x : V}, Vals xs us → xs[i]? = some x → ∃ u, us[i]? = some u ∧ RelV x u
  | _, _, _, _, .nil, e => by simp at e
  | _, _, 0, _, .cons r _, e => by simp at e; subst e; exact ⟨_, rfl, r⟩
  | _, _, i + 1, x, .cons _ t, e => by
    obtain ⟨u, h1, h2⟩ := Vals.get (i := i) (x := x) t (by simpa using e)
    exact ⟨u, by simpa using h1, h2⟩
theorem Vals.set {x : V} {u : Value} (r : RelV x u) : ∀ {xs : List V} {us : List Value} (i : Nat), Vals xs us → Vals (xs.set i x) (us.set i u)
  | _, _, _, .nil => .nil
  | _, _, 0, .cons _ t => .cons r t
  | _, _, i + 1, .cons q t => .cons q (Vals.set r i t)
theorem Vals.append : ∀ {xs ys : List V} {us ws : List Value}, Vals xs us → Vals ys ws → Vals (xs ++ ys) (us ++ ws)
  | _, _, _, _, .nil, s => s
  | _, _, _, _, .cons r t, s => .cons r (Vals.append t s)
theorem Vals.take : ∀ {xs : List V} {us : List Value} (n : Nat), Vals xs us → Vals (xs.take n) (us.take n)
  | _, _, 0, _ => .nil
  | _, _, _ + 1, .nil => .nil
  | _, _, n + 1, .cons r t => .cons r (Vals.take n t)
theorem Vals.drop : ∀ {xs : List V} {us : List Value} (n : Nat), Vals xs us → Vals (xs.drop n) (us.drop n)
  | _, _, 0, r => r
  | _, _, _ + 1, .nil => .nil
  | _, _, n + 1, .cons _ t => Vals.drop n t
theorem Vals.none_of : ∀ {xs : List V} {us : List Value} {i : Nat}, Vals xs us → xs[i]? = none → us[i]? = none := fun {xs us i} r e => by
  have h1 := r.length
  have h2 : xs.length ≤ i := List.getElem?_eq_none_iff.mp e
  exact List.getElem?_eq_none_iff.mpr (by omega)
def RelO : Option V → Option Value → Prop
  | some v, some u => RelV v u
  | none, none => True
  | _, _ => False
def KV {κ : Type} : List (κ × V) → List (κ × Value) → Prop := Paired fun (p : κ × V) (q : κ × Value) => p.1 = q.1 ∧ RelV p.2 q.2
def kV : Key → V
  | .inl i => .int i
  | .inr x => .str x
inductive HO where
  /-- a list -/
  | lst (xs : List V)
  /-- a tuple (never changes) -/
  | tup (xs : List V)
  /-- a dict whose keys are ints and texts; one whose keys are tuples of ints and texts (the empty one is both) -/
  | dK (kvs : List (Key × V)) | dT (kvs : List (List Key × V))
  /-- a set of ints: its members, its size -/
  | set (S : Int → Bool) (n : Nat)
  /-- an instance of the class at C, its dict at dx, its attributes -/
  | ins (C dx : Addr) (fs : List (Str × V))
  /-- the dict of the instance at x -/
  | own (x : Addr)
  /-- the dict of an exception -/
  | xd (fs : List (Str × V))
  /-- a bound method, f of x -/
  | met (f x : Addr)
  /-- a range object lo, lo + 1, .. below hi -/
  | rng (lo hi : Int)
  /-- a thing that is known to the object (the script; a dict while a loop walks it): read, never written while it is so -/
  | frz (o : Obj) (u : HO)
  /-- a code object's table -/
  | tbl (ps : Array Value)
  /-- any other thing, by what is true of its one object (a def of one's own: SetO a S n := HO.ext fun h => ..) -/
  | ext (φ : Heap → Prop)
abbrev Hp := Addr → Option HO
def upd (H : Hp) (a : Addr) (o : HO) : Hp := fun b => if b = a then some o else H b
theorem upd_same {H : Hp} {a : Addr} {o : HO} : upd H a o a = some o := by unfold upd; rw [if_pos rfl]
theorem upd_ne {H : Hp} {a b : Addr} {o : HO} (h : b ≠ a) : upd H a o b = H b := by unfold upd; rw [if_neg h]
theorem ne_of_none {H : Hp} {a b : Addr} {o : HO} (h : H a = some o) (h' : H b = none) : a ≠ b := by
  intro e; subst e; rw [h] at h'; cases h'
def IsTupN (h : Heap) (a : Addr) (items : Array Value) : Prop := ∃ o, h.get? a = some o ∧ o.cls = .type "tuple" ∧ (∃ n, o.data = .seq items n) ∧ o.dict = none
theorem IsTupN.tup {h : Heap} {a : Addr} {items : Array Value} (x : IsTupN h a items) : IsTup h a items := let ⟨o, e, c, d, _⟩ := x; ⟨o, e, c, d⟩
theorem IsTupN.new (h : Heap) (items : Array Value) : IsTupN (h.push { cls := .type "tuple", data := .seq items }) h.objs.size items := ⟨_, Heap.get?_push_size _ rfl, rfl, ⟨_, rfl⟩, rfl⟩
section
variable (P : Program) (w : World)
def ObjOk (H : Hp) (h : Heap) (a : Addr) : HO → Prop
  | .lst xs => xs.length ≤ sizeLine ∧ ∃ (its : List Value) (n : Nat), Vals xs its ∧ h.get? a = some { cls := .type "list", data := .seq its.toArray n }
  | .tup xs => xs.length ≤ sizeLine ∧ ∃ its : List Value, Vals xs its ∧ IsTupN h a its.toArray
  | .dK kvs => kvs.length ≤ sizeLine ∧ (a == sysModules) = false ∧ ∃ vs, KV kvs vs ∧ h.DictOf (mixKind P w) a vs
  | .dT kvs => kvs.length ≤ sizeLine ∧ (a == sysModules) = false ∧ ∃ xs : List (List Key × Addr × Value),
      Paired (fun (p : List Key × V) (q : List Key × Addr × Value) => p.1 = q.1 ∧ H q.2.1 = some (.tup (p.1.map kV)) ∧ RelV p.2 q.2.2) kvs xs ∧
      ∃ o es ep, h.get? a = some o ∧ o.ExactDict ∧ o.data = .dict es ep ∧ es.toList = xs.map (entryOfKey (tupleKind (mixKind P w))) ∧ (xs.map (·.1)).Nodup
  | .set S n => h.SetOf (intKind P w) a S n
  | .ins C dx fs => H dx = some (.own a) ∧ fs.length ≤ 1000 ∧ dx ≠ a ∧ h.get? a = some (PySem.W.instObj C dx) ∧
      ∃ mA, h.Ns1 dx mA ∧ (∀ f, RelO (fs.lookup f) (mA f)) ∧ PySem.Within mA (fs.map (·.1))
  | .own _ => ∃ o, h.get? a = some o
  | .xd fs => ∃ mA, h.Ns1 a mA ∧ ∀ f, RelO (fs.lookup f) (mA f)
  | .rng lo hi => ∃ t u v, h.get? a = some { cls := .type "range", data := .fields #[.int lo t, .int hi u, .int 1 v] }
  | .frz o u => h.get? a = some o ∧ ObjOk H h a u
  | .tbl ps => h.get? a = some { cls := .none, data := .fields ps }
  | .met f x => h.get? a = some (PySem.W.methodObj (.ref f) (.ref x))
  | .ext φ => φ h ∧ (∃ o, h.get? a = some o) ∧ ∀ h1 h2 : Heap, φ h1 → (∀ o, h1.get? a = some o → h2.get? a = some o) → φ h2
def HOk (H : Hp) (h : Heap) : Prop := ∀ a o, H a = some o → ObjOk P w H h a o
end
section
variable {P : Program} {w : World} {H H' : Hp} {h h' : Heap} {a : Addr} {o : HO}
theorem ObjOk.lt (x : ObjOk P w H h a o) : a < h.objs.size := by
  cases o with
  | lst xs => obtain ⟨_, _, _, _, e⟩ := x; exact Heap.lt_size e
  | tup xs => obtain ⟨_, _, _, p⟩ := x; exact (IsTupN.tup p).lt
  | dK kvs => obtain ⟨_, _, _, _, o, _, _, e, _⟩ := x; exact Heap.lt_size e
  | dT kvs => obtain ⟨_, _, _, _, o, _, _, e, _⟩ := x; exact Heap.lt_size e
  | set S n => obtain ⟨o, _, _, _, e, _⟩ := x; exact Heap.lt_size e
  | ins C dx fs => obtain ⟨_, _, _, e, _⟩ := x; exact Heap.lt_size e
  | own y => obtain ⟨_, e⟩ := x; exact Heap.lt_size e
  | xd fs => obtain ⟨_, ⟨_, _, _, e, _⟩, _⟩ := x; exact Heap.lt_size e
  | rng lo hi => obtain ⟨_, _, _, e⟩ := x; exact Heap.lt_size e
  | frz ob u => obtain ⟨e, _⟩ := x; exact Heap.lt_size e
  | tbl ps => exact Heap.lt_size (show h.get? a = some _ from x)
  | met f y => exact Heap.lt_size (show h.get? a = some _ from x)
  | ext φ => obtain ⟨_, ⟨_, e⟩, _⟩ := x; exact Heap.lt_size e
theorem Paired.mapP {α β : Type} {F G : α → β → Prop} : ∀ {l₁ : List α} {l₂ : List β}, Paired F l₁ l₂ → (∀ a b, F a b → G a b) → Paired G l₁ l₂
  | _, _, .nil, _ => .nil
  | _, _, .cons r t, f => .cons (f _ _ r) (Paired.mapP t f)
theorem ObjOk.stay (x : ObjOk P w H h a o) (k : ∀ b u, (b = a ∨ H b = some (.own a)) → h.get? b = some u → h'.get? b = some u)
    (ho : ∀ b, H b = some (.own a) → H' b = some (.own a)) (ht : ∀ b xs, H b = some (.tup xs) → H' b = some (.tup xs)) : ObjOk P w H' h' a o := by
  induction o with
  | lst xs => obtain ⟨z, its, n, r, e⟩ := x; exact ⟨z, its, n, r, k _ _ (.inl rfl) e⟩
  | tup xs => obtain ⟨z, its, r, ob, e, c⟩ := x; exact ⟨z, its, r, ob, k _ _ (.inl rfl) e, c⟩
  | dK kvs => obtain ⟨z, y, vs, r, ob, es, ep, e, c⟩ := x; exact ⟨z, y, vs, r, ob, es, ep, k _ _ (.inl rfl) e, c⟩
  | dT kvs =>
    obtain ⟨z, y, xs, r, ob, es, ep, e, c⟩ := x
    exact ⟨z, y, xs, Paired.mapP r fun p q z => ⟨z.1, ht _ _ z.2.1, z.2.2⟩, ob, es, ep, k _ _ (.inl rfl) e, c⟩
  | set S n => obtain ⟨ob, es, ep, t, e, c⟩ := x; exact ⟨ob, es, ep, t, k _ _ (.inl rfl) e, c⟩
  | ins C dx fs =>
    obtain ⟨d, z, ne, e, mA, ⟨od, es, ep, e2, c⟩, r⟩ := x
    exact ⟨ho _ d, z, ne, k _ _ (.inl rfl) e, mA, ⟨od, es, ep, k _ _ (.inr d) e2, c⟩, r⟩
  | own y => obtain ⟨ob, e⟩ := x; exact ⟨ob, k _ _ (.inl rfl) e⟩
  | xd fs => obtain ⟨mA, ⟨od, es, ep, e, c⟩, r⟩ := x; exact ⟨mA, ⟨od, es, ep, k _ _ (.inl rfl) e, c⟩, r⟩
  | rng lo hi => obtain ⟨t, u, v, e⟩ := x; exact ⟨t, u, v, k _ _ (.inl rfl) e⟩
  | frz ob u ih => obtain ⟨e, q⟩ := x; exact ⟨k _ _ (.inl rfl) e, ih q⟩
  | tbl ps =>
    have e : h.get? a = some { cls := .none, data := .fields ps } := x
    show h'.get? a = some { cls := .none, data := .fields ps }
    exact k a _ (.inl rfl) e
  | met f y =>
    have e : h.get? a = some (PySem.W.methodObj (.ref f) (.ref y)) := x
    show h'.get? a = some (PySem.W.methodObj (.ref f) (.ref y))
    exact k a _ (.inl rfl) e
  | ext φ => obtain ⟨p, ⟨o, e⟩, st⟩ := x; exact ⟨st _ _ p fun o q => k _ _ (.inl rfl) q, ⟨o, k _ _ (.inl rfl) e⟩, st⟩
theorem HOk.lt (x : HOk P w H h) (e : H a = some o) : a < h.objs.size := (x a o e).lt
theorem HOk.fresh (x : HOk P w H h) (e : h.objs.size ≤ a) : H a = none := by
  cases q : H a with
  | none => rfl
  | some u => exact absurd (Nat.lt_of_lt_of_le (x.lt q) e) (Nat.lt_irrefl _)
theorem HOk.kept (x : HOk P w H h) (k : ∀ b u, h.get? b = some u → h'.get? b = some u) : HOk P w H h' := fun a o e =>
  (x a o e).stay (fun b u _ q => k b u q) (fun _ q => q) fun _ _ q => q
theorem HOk.laid (x : HOk P w H h) (k : ∀ b u, h.get? b = some u → h'.get? b = some u) (hp : h.objs.size ≤ a) (new : ObjOk P w (upd H a o) h' a o) : HOk P w (upd H a o) h' := fun b u e => by
  have hn := x.fresh hp
  by_cases hb : b = a
  · subst hb; rw [upd_same] at e; cases e; exact new
  · rw [upd_ne hb] at e
    exact (x b u e).stay (fun c v _ q => k c v q) (fun c q => by rw [upd_ne (ne_of_none q hn)]; exact q) fun c xs q => by rw [upd_ne (ne_of_none q hn)]; exact q
end
def Rd (H : Hp) (a : Addr) (u : HO) : Prop := H a = some u ∨ ∃ o, H a = some (.frz o u)
theorem Rd.of {H : Hp} {a : Addr} {u : HO} (h : H a = some u) : Rd H a u := .inl h
theorem Rd.ok {P : Program} {w : World} {H : Hp} {h : Heap} {a : Addr} {u : HO} (r : Rd H a u) (x : HOk P w H h) : ObjOk P w H h a u := by
  rcases r with r | ⟨o, r⟩
  · exact x a u r
  · obtain ⟨_, q⟩ := x a _ r
    exact q
def Mut : Option HO → Prop
  | some (.lst _) => True
  | some (.dK _) => True
  | some (.dT _) => True
  | some (.set _ _) => True
  | some (.ins _ _ _) => True
  | some (.ext _) => True
  | _ => False
section
variable {P : Program} {w : World} {H : Hp} {h h' : Heap} {x e : Addr} {o' : HO}
theorem HOk.write (ok : HOk P w H h) (mu : Mut (H x)) (he : e = x ∨ H e = some (.own x)) (k : ∀ b u, b ≠ e → h.get? b = some u → h'.get? b = some u) (heo : ∃ u, h'.get? e = some u)
    (new : ObjOk P w (upd H x o') h' x o') : HOk P w (upd H x o') h' := fun b u q => by
  have nown : ∀ c y, H c = some (.own y) → c ≠ x := fun c y r z => by subst z; rw [r] at mu; exact mu
  have ntup : ∀ c xs, H c = some (.tup xs) → c ≠ x := fun c xs r z => by subst z; rw [r] at mu; exact mu
  by_cases hb : b = x
  · subst hb; rw [upd_same] at q; cases q; exact new
  · rw [upd_ne hb] at q
    by_cases hbe : b = e
    · have q' : H b = some (.own x) := by
        rcases he with z | z
        · exact absurd (hbe.trans z) hb
        · rw [hbe]; exact z
      rw [q] at q'; cases q'
      obtain ⟨v, hv⟩ := heo
      exact ⟨v, by rw [hbe]; exact hv⟩
    · refine (ok b u q).stay (fun c v hc r => k c v ?_ r) (fun c r => by rw [upd_ne (nown c b r)]; exact r) fun c xs r => by rw [upd_ne (ntup c xs r)]; exact r
      rcases hc with rfl | hc
      · exact hbe
      · rintro rfl
        rcases he with z | z
        · exact nown c b hc z
        · rw [hc] at z; cases z; exact hb rfl
end
structure Un (fs ex : List Addr) (H H' : Hp) (h h' : Heap) : Prop where
  keep : ∀ b o, h.get? b = some o → H b = none → b ∉ fs → b ∉ ex → h'.get? b = some o
  slot : ∀ b o, h.get? b = some o → H b = none → b ∈ fs → b ∉ ex → ∃ sl, h'.get? b = some { o with slots := sl }
  free : ∀ b o, h.get? b = some o → H b = none → b ∉ ex → H' b = none
  there : ∀ b o, h.get? b = some o → b ∉ ex → ∃ o', h'.get? b = some o'
  tups : ∀ b xs, H b = some (.tup xs) → H' b = some (.tup xs)
  frzs : ∀ b o u, H b = some (.frz o u) → H' b = some (.frz o u)
  tbls : ∀ b ps, H b = some (.tbl ps) → ∃ more, H' b = some (.tbl (ps ++ more))
section
variable {fs fs' ex ex' : List Addr} {H H1 H2 : Hp} {h h1 h2 h' : Heap} {a x e : Addr} {o : HO}
theorem Un.any (u : Un fs ex H H1 h h1) {b : Addr} {ob : Obj} (q : h.get? b = some ob) (n : H b = none) (hx : b ∉ ex) : ∃ sl, h1.get? b = some { ob with slots := sl } := by
  by_cases hb : b ∈ fs
  · exact u.slot b ob q n hb hx
  · exact ⟨ob.slots, u.keep b ob q n hb hx⟩
theorem Un.trans (a : Un fs ex H H1 h h1) (b : Un fs ex H1 H2 h1 h2) : Un fs ex H H2 h h2 where
  keep := fun c ob q n hc hx => b.keep c ob (a.keep c ob q n hc hx) (a.free c ob q n hx) hc hx
  slot := fun c ob q n hc hx => by
    obtain ⟨sl, e1⟩ := a.slot c ob q n hc hx
    obtain ⟨sl', e2⟩ := b.slot c _ e1 (a.free c ob q n hx) hc hx
    exact ⟨sl', e2⟩
  free := fun c ob q n hx => by
    obtain ⟨o', e1⟩ := a.there c ob q hx
    exact b.free c o' e1 (a.free c ob q n hx) hx
  there := fun c ob q hx => by
    obtain ⟨o', e1⟩ := a.there c ob q hx
    exact b.there c o' e1 hx
  tups := fun c xs q => b.tups c xs (a.tups c xs q)
  frzs := fun c ob xs q => b.frzs c ob xs (a.frzs c ob xs q)
  tbls := fun c ps q => by
    obtain ⟨m1, e1⟩ := a.tbls c ps q
    obtain ⟨m2, e2⟩ := b.tbls c _ e1
    exact ⟨m1 ++ m2, by rw [e2, Array.append_assoc]⟩
theorem Un.kept (k : ∀ b u, h.get? b = some u → h'.get? b = some u) : Un fs ex H H h h' :=
  ⟨fun b ob q _ _ _ => k b ob q, fun b ob q _ _ _ => ⟨ob.slots, k b ob q⟩, fun _ _ _ n _ => n, fun b ob q _ => ⟨ob, k b ob q⟩, fun _ _ q => q, fun _ _ _ q => q, fun _ ps q => ⟨#[], by rw [q]; simp⟩⟩
theorem Un.refl : Un fs ex H H h h := Un.kept fun _ _ q => q
theorem Un.laid (k : ∀ b u, h.get? b = some u → h'.get? b = some u) (hp : h.objs.size ≤ a) (hn : H a = none) : Un fs ex H (upd H a o) h h' where
  keep := fun b u q _ _ _ => k b u q
  slot := fun b u q _ _ _ => ⟨u.slots, k b u q⟩
  free := fun b u q n _ => by rw [upd_ne (Nat.ne_of_lt (Nat.lt_of_lt_of_le (Heap.lt_size q) hp))]; exact n
  there := fun b u q _ => ⟨u, k b u q⟩
  tups := fun b xs q => by rw [upd_ne (ne_of_none q hn)]; exact q
  frzs := fun b u xs q => by rw [upd_ne (ne_of_none q hn)]; exact q
  tbls := fun b ps q => ⟨#[], by rw [upd_ne (ne_of_none q hn), q]; simp⟩
theorem Un.write (mu : Mut (H x)) (he : e = x ∨ H e = some (.own x)) (k : ∀ b u, b ≠ e → h.get? b = some u → h'.get? b = some u) (heo : ∃ u, h'.get? e = some u) : Un fs ex H (upd H x o) h h' := by
  have hx : ∀ b, H b = none → b ≠ x := fun b n z => by subst z; rw [n] at mu; exact mu
  have hb : ∀ b, H b = none → b ≠ e := fun b n z => by
    subst z
    rcases he with r | r
    · exact hx b n r
    · rw [n] at r; cases r
  have hm : ∀ b u, H b = some u → ¬ Mut (some u) → b ≠ x := fun b u q nm z => by subst z; rw [q] at mu; exact nm mu
  refine ⟨fun b u q n _ _ => k b u (hb b n) q, fun b u q n _ _ => ⟨u.slots, k b u (hb b n) q⟩, fun b u q n _ => by rw [upd_ne (hx b n)]; exact n, fun b u q _ => ?_,
    fun b xs q => by rw [upd_ne (hm b _ q fun z => z)]; exact q, fun b u xs q => by rw [upd_ne (hm b _ q fun z => z)]; exact q, fun b ps q => ⟨#[], by rw [upd_ne (hm b _ q fun z => z), q]; simp⟩⟩
  by_cases hbe : b = e
  · subst hbe; exact heo
  · exact ⟨u, k b u hbe q⟩
theorem Un.mono (u : Un fs ex H H1 h h1) (hs : ∀ b ∈ fs, b ∈ fs') (hx : ∀ b ∈ ex, b ∈ ex') : Un fs' ex' H H1 h h1 :=
  ⟨fun b ob q n hb he => u.keep b ob q n (fun z => hb (hs b z)) fun z => he (hx b z), fun _ _ q n _ he => u.any q n fun z => he (hx _ z), fun b ob q n he => u.free b ob q n fun z => he (hx b z), fun b ob q he => u.there b ob q fun z => he (hx b z), u.tups, u.frzs, u.tbls⟩
end
def trk (h : Heap) (H : Hp) : List Addr := (List.range h.objs.size).filter fun a => (H a).isSome
def hidT (h : Heap) (H : Hp) : Heap := PySem.W.hideAll h (trk h H)
theorem hidT_size (h : Heap) (H : Hp) : (hidT h H).objs.size = h.objs.size := PySem.W.hideAll_size _ _
theorem hidT_get {h : Heap} {H : Hp} {b : Addr} {o : Obj} (e : h.get? b = some o) (n : H b = none) : (hidT h H).get? b = some o :=
  PySem.W.hideAll_get _ e fun hm => by
    have q : (H b).isSome = true := (List.mem_filter.mp hm).2
    rw [n] at q; simp at q
theorem of_hidT {h : Heap} {H : Hp} {b : Addr} {o : Obj} (e : (hidT h H).get? b = some o) : h.get? b = some o ∧ H b = none := by
  have e' : h.get? b = some o := PySem.W.of_hideAll (trk h H) e
  refine ⟨e', ?_⟩
  cases q : H b with
  | none => rfl
  | some x =>
    have hm : b ∈ trk h H := List.mem_filter.mpr ⟨List.mem_range.mpr (Heap.lt_size e'), by simp [q]⟩
    have z : (hidT h H).get? b = none := PySem.W.hideAll_none (trk h H) hm
    rw [z] at e; cases e
def allNews (g h : Heap) (L : Addr) : List (Addr × Obj) := (List.range h.objs.size).filterMap fun a => if a = L ∨ (g.get? a).isSome = true then none else (h.get? a).map fun o => (a, o)
def rest (g h : Heap) (L d : Addr) : List (Addr × Obj) := (allNews g h L).filter fun p => decide (p.1 ≠ d)
end L2
namespace L2
open PySem PySem.Spec PyProof.Rows
structure Mod (K : PySem.W.Frag) (mg : Str → Option Value) (base : Heap) : Prop where
  kin : K.In base
  glob : base.Ns mainGlobals mg
  blt : ∃ mb, base.Ns builtinsNs mb ∧ ∀ x : Str, x ≠ "__name__" → mb x = bootBuiltins x
  nolimit : base.NoLimit
structure Cx where
  prog : Program
  w : World
  K : PySem.W.Frag
  mg : Str → Option Value
  base : Heap
  A : Around
  N : List Str
  s_0 : Shared
  H_0 : Hp
  env : Env
  outer : List Env
  stack : List Env
  ex : List Addr
  fn : Str → Bool
  calm : Bool
  pn : List (Addr × Obj)
  xe : Value → Shared → Prop
def frs (l : List Env) : List Addr := l.filterMap (·.frame)
abbrev Cx.fs (X : Cx) : List Addr := frs X.outer
def Vis (sc : Scope) (x : Str) : Prop := sc.names.lookup x = some .local ∨ sc.names.lookup x = some .cell ∨ sc.names.lookup x = some .free
def Loc (sc : Scope) (x : Str) : Prop := sc.names.lookup x = some .local ∨ sc.names.lookup x = some .cell
def Look (env : Env) (h : Heap) (m : Str → Option Value) (x : Str) (u : Value) : Prop :=
  (env.kindOf x = some .local ∧ m x = some u) ∨ ((env.kindOf x = some .cell ∨ env.kindOf x = some .free) ∧ ∃ c, env.cells.lookup x = some c ∧ h.IsCell c (some u))
structure Cx.Ok (X : Cx) : Prop where
  mod : Mod X.K X.mg X.base
  kind : X.env.scope.kind = .function
  glob : X.env.globals = mainGlobals
  blt : X.env.builtins = builtinsNs
  above : X.s_0.heap.objs.size ≤ X.env.locals
  inj : ∀ x y c, X.env.cells.lookup x = some c → X.env.cells.lookup y = some c → x = y
  has : ∀ x, (X.env.kindOf x = some .cell ∨ X.env.kindOf x = some .free) → ∃ c, X.env.cells.lookup x = some c
  cab : ∀ x c, X.fn x = true → X.env.cells.lookup x = some c → X.s_0.heap.objs.size ≤ c
  hd : X.calm = true → X.A.handled = none
  frames : X.A.frames = some X.stack
  stk : X.stack = X.outer ∨ (X.stack = X.env :: X.outer ∧ X.env.frame = some X.env.locals)
  exf : ∀ b ∈ X.ex, b ≠ X.env.locals ∧ ∀ x c, X.env.cells.lookup x = some c → c ≠ b
  bs : ∀ b o, X.base.get? b = some o → X.s_0.heap.get? b = some o ∧ X.H_0 b = none
  bsz : X.base.objs.size ≤ X.s_0.heap.objs.size
  noex : ∀ b o, X.base.get? b = some o → b ∉ X.ex
  exfs : ∀ b ∈ X.ex, b ∉ X.fs
  funs : X.s_0.heap.FunFrames X.base X.outer
  frf : ∀ b ∈ X.fs, X.H_0 b = none
structure Inv (X : Cx) (pins : List (Addr × Obj)) (σ : List (Option V)) (H : Hp) (s : Shared) : Prop where
  ok : X.Ok
  os : s.os = X.s_0.os
  bare : AllBare s.gens
  base : Un X.fs X.ex X.H_0 H X.s_0.heap s.heap
  loc : ∃ m, s.heap.Ns X.env.locals m ∧ ∀ (i : Nat) (x : Str) (v : V), X.N[i]? = some x → σ[i]? = some (some v) → Vis X.env.scope x → ∃ u, RelV v u ∧ Look X.env s.heap m x u
  cell : ∀ x c, X.env.cells.lookup x = some c → ∃ v, s.heap.IsCell c v
  free : H X.env.locals = none
  freeC : ∀ x c, X.env.cells.lookup x = some c → H c = none
  pin : ∀ p ∈ X.pn ++ pins, s.heap.get? p.1 = some p.2 ∧ H p.1 = none ∧ p.1 ≠ X.env.locals ∧ p.1 ∉ X.fs ∧ ∀ v, p.2.data ≠ .cell v
  hok : HOk X.prog X.w H s.heap
  len : σ.length = X.N.length
section
variable {X : Cx} {pins : List (Addr × Obj)} {σ : List (Option V)} {H H' : Hp} {s : Shared} {h' : Heap}
theorem Cx.Ok.nofr (ok : X.Ok) {b : Addr} {o : Obj} (e : X.base.get? b = some o) : b ∉ X.fs := fun hb => by
  have := (ok.funs.mem hb).1
  rw [e] at this; cases this
theorem Inv.bs (I : Inv X pins σ H s) : ∀ b o, X.base.get? b = some o → s.heap.get? b = some o ∧ H b = none := fun b o e =>
  ⟨I.base.keep b o (I.ok.bs b o e).1 (I.ok.bs b o e).2 (I.ok.nofr e) (I.ok.noex b o e), I.base.free b o (I.ok.bs b o e).1 (I.ok.bs b o e).2 (I.ok.noex b o e)⟩
theorem Inv.bk (I : Inv X pins σ H s) : ∀ b o, X.base.get? b = some o → s.heap.get? b = some o := fun b o e => (I.bs b o e).1
theorem Inv.mod (I : Inv X pins σ H s) : Mod X.K X.mg X.base := I.ok.mod
theorem Inv.kIn (I : Inv X pins σ H s) : X.K.In s.heap := I.ok.mod.kin.keeps I.bk
theorem Inv.nolimit (I : Inv X pins σ H s) : s.heap.NoLimit := I.ok.mod.nolimit.keeps I.bk
theorem Inv.fr (I : Inv X pins σ H s) : ∃ m, Fr X.base X.env.locals s.heap m :=
  let ⟨m, hn, _⟩ := I.loc
  ⟨m, hn, I.bk, Nat.le_trans I.ok.bsz I.ok.above⟩
theorem Inv.lt (I : Inv X pins σ H s) : X.env.locals < s.heap.objs.size := let ⟨_, hn, _⟩ := I.loc; hn.lt
theorem Inv.sz (I : Inv X pins σ H s) : X.s_0.heap.objs.size ≤ s.heap.objs.size := Nat.le_trans I.ok.above (Nat.le_of_lt I.lt)
theorem Inv.nofs (I : Inv X pins σ H s) {a : Addr} (h : s.heap.objs.size ≤ a) : a ∉ X.fs := fun hb => by
  obtain ⟨_, o, ho, _⟩ := I.ok.funs.mem hb
  exact absurd (Nat.lt_of_lt_of_le (Heap.lt_size ho) (Nat.le_trans I.sz h)) (Nat.lt_irrefl _)
theorem Inv.cne (I : Inv X pins σ H s) : ∀ x c, X.env.cells.lookup x = some c → c ≠ X.env.locals := fun x c e z => by
  obtain ⟨v, o, ho, hd⟩ := I.cell x c e
  obtain ⟨m, ⟨o', es, ep, ho', hd', _⟩, _⟩ := I.loc
  rw [z, ho'] at ho; cases ho; rw [hd'] at hd; cases hd
theorem Inv.funs (I : Inv X pins σ H s) : s.heap.FunFrames X.base X.outer := by
  have all : ∀ (l : List Env), (∀ b ∈ frs l, b ∈ X.fs) → X.s_0.heap.FunFrames X.base l → s.heap.FunFrames X.base l := by
    intro l
    induction l with
    | nil => intro _ _; trivial
    | cons env r ih =>
      intro hs hl
      obtain ⟨hk, ⟨L, o, hf, hn, ho, hd⟩, hr⟩ := hl
      have hL : L ∈ X.fs := hs L (by unfold frs; rw [List.filterMap_cons, hf]; exact List.mem_cons_self)
      obtain ⟨sl, e⟩ := I.base.slot L o ho (I.ok.frf L hL) hL fun z => I.ok.exfs L z hL
      exact ⟨hk, ⟨L, _, hf, hn, e, hd⟩, ih (fun b hb => hs b (by unfold frs; rw [List.filterMap_cons, hf]; exact List.mem_cons_of_mem _ hb)) hr⟩
  exact all X.outer (fun _ hb => hb) I.ok.funs
theorem Inv.stack (I : Inv X pins σ H s) : s.heap.FunFrames X.base X.stack := by
  rcases I.ok.stk with e | ⟨e, hf⟩
  · rw [e]; exact I.funs
  · rw [e]
    obtain ⟨m, hn, _⟩ := I.loc
    refine .cons (by rw [I.ok.kind]; decide) hf hn ?_ I.funs
    exact Heap.get?_none_of_le (Nat.le_trans I.ok.bsz I.ok.above)
theorem Inv.stkSub (I : Inv X pins σ H s) : ∀ b ∈ frs X.stack, b ∈ X.env.locals :: X.fs := fun b hb => by
  rcases I.ok.stk with e | ⟨e, hf⟩
  · rw [e] at hb; exact List.mem_cons_of_mem _ hb
  · rw [e] at hb
    unfold frs at hb
    rw [List.filterMap_cons, hf] at hb
    exact hb
theorem Inv.stkFree (I : Inv X pins σ H s) : ∀ b ∈ frs X.stack, H b = none := fun b hb => by
  rcases List.mem_cons.mp (I.stkSub b hb) with e | hb
  · rw [e]; exact I.free
  · obtain ⟨_, o, ho, _⟩ := I.ok.funs.mem hb
    exact I.base.free b o ho (I.ok.frf b hb) fun z => I.ok.exfs b z hb
theorem Inv.step {g' : Array GenState} {t' : Nat} {d' : Drawn} {ch : List Addr} (I : Inv X pins σ H s)
    (hch : ∀ b ∈ ch, (b ∈ X.ex ∨ X.s_0.heap.objs.size ≤ b) ∧ b ≠ X.env.locals ∧ (∀ x c, X.env.cells.lookup x = some c → c ≠ b) ∧ ∀ p ∈ X.pn ++ pins, p.1 ≠ b)
    (keep : ∀ b o, b ≠ X.env.locals → b ∉ X.fs → b ∉ ch → s.heap.get? b = some o → H b = none → h'.get? b = some o)
    (slot : ∀ b o, b ≠ X.env.locals → b ∈ X.fs → b ∉ ch → s.heap.get? b = some o → H b = none → ∃ sl, h'.get? b = some { o with slots := sl }) (free : ∀ b o, b ∉ ch → s.heap.get? b = some o → H b = none → H' b = none)
    (there : ∀ b o, b ∉ ch → s.heap.get? b = some o → ∃ o', h'.get? b = some o')
    (tups : ∀ b xs, H b = some (.tup xs) → H' b = some (.tup xs)) (frzs : ∀ b o u, H b = some (.frz o u) → H' b = some (.frz o u)) (tbls : ∀ b ps, H b = some (.tbl ps) → ∃ more, H' b = some (.tbl (ps ++ more)))
    (ns : ∀ m, s.heap.Ns X.env.locals m → h'.Ns X.env.locals m) (hok : HOk X.prog X.w H' h') (hg : AllBare g') :
    Inv X pins σ H' { s with heap := h', gens := g', drawn := d', toks := t' } := by
  have neL : ∀ b o, X.s_0.heap.get? b = some o → b ≠ X.env.locals := fun b o e => Nat.ne_of_lt (Nat.lt_of_lt_of_le (Heap.lt_size e) I.ok.above)
  have neC : ∀ b o, X.s_0.heap.get? b = some o → b ∉ X.ex → b ∉ ch := fun b o e hx hb => by
    rcases (hch b hb).1 with z | z
    · exact hx z
    · exact absurd (Nat.lt_of_lt_of_le (Heap.lt_size e) z) (Nat.lt_irrefl _)
  have cellK : ∀ x c, X.env.cells.lookup x = some c → ∀ v, s.heap.IsCell c v → h'.IsCell c v := fun x c e v ⟨o, ho, hd⟩ => by
    have nch : c ∉ ch := fun z => (hch c z).2.2.1 x c e rfl
    by_cases hc : c ∈ X.fs
    · obtain ⟨sl, q⟩ := slot c o (I.cne x c e) hc nch ho (I.freeC x c e)
      exact ⟨_, q, hd⟩
    · exact ⟨o, keep c o (I.cne x c e) hc nch ho (I.freeC x c e), hd⟩
  refine ⟨I.ok, I.os, hg, ⟨fun b o e n hb hx => ?_, fun b o e n hb hx => ?_, fun b o e n hx => ?_, fun b o e hx => ?_, fun b xs e => tups b xs (I.base.tups b xs e), fun b o xs e => frzs b o xs (I.base.frzs b o xs e), fun b ps e => ?_⟩, ?_, fun x c e => ?_, ?_, fun x c e => ?_, fun p hp => ?_, hok, I.len⟩
  · exact keep b o (neL b o e) hb (neC b o e hx) (I.base.keep b o e n hb hx) (I.base.free b o e n hx)
  · obtain ⟨sl, e1⟩ := I.base.slot b o e n hb hx
    obtain ⟨sl', e2⟩ := slot b _ (neL b o e) hb (neC b o e hx) e1 (I.base.free b o e n hx)
    exact ⟨sl', e2⟩
  · obtain ⟨o', e1⟩ := I.base.there b o e hx
    exact free b o' (neC b o e hx) e1 (I.base.free b o e n hx)
  · obtain ⟨o', e1⟩ := I.base.there b o e hx
    exact there b o' (neC b o e hx) e1
  · obtain ⟨m1, e1⟩ := I.base.tbls b ps e
    obtain ⟨m2, e2⟩ := tbls b _ e1
    exact ⟨m1 ++ m2, by rw [e2, Array.append_assoc]⟩
  · obtain ⟨m, hn, hl⟩ := I.loc
    refine ⟨m, ns m hn, fun i x v e1 e2 e3 => ?_⟩
    obtain ⟨u, r, l⟩ := hl i x v e1 e2 e3
    refine ⟨u, r, ?_⟩
    rcases l with l | ⟨k, c, e, z⟩
    · exact .inl l
    · exact .inr ⟨k, c, e, cellK x c e _ z⟩
  · obtain ⟨v, z⟩ := I.cell x c e
    exact ⟨v, cellK x c e v z⟩
  · obtain ⟨m, ⟨o, _, _, ho, _⟩, _⟩ := I.loc
    exact free _ o (fun z => (hch _ z).2.1 rfl) ho I.free
  · obtain ⟨v, o, ho, hd⟩ := I.cell x c e
    exact free c o (fun z => (hch c z).2.2.1 x c e rfl) ho (I.freeC x c e)
  · obtain ⟨e, n, ne, nf, d⟩ := I.pin p hp
    have nch : p.1 ∉ ch := fun z => (hch p.1 z).2.2.2 p hp rfl
    exact ⟨keep p.1 p.2 ne nf nch e n, free p.1 p.2 nch e n, ne, nf, d⟩
theorem Inv.un {t' : Nat} (I : Inv X pins σ H s) (u : Un X.fs [] H H' s.heap h') (hok : HOk X.prog X.w H' h') : Inv X pins σ H' { s with heap := h', toks := t' } := by
  obtain ⟨m, ⟨o, es, ep, ho, r⟩, _⟩ := id I.loc
  obtain ⟨sl, hL⟩ := u.any ho I.free (by simp)
  exact I.step (g' := s.gens) (d' := s.drawn) (ch := []) (fun _ z => nomatch z) (fun b o _ hb _ e n => u.keep b o e n hb (by simp)) (fun b o _ hb _ e n => u.slot b o e n hb (by simp)) (fun b o _ e n => u.free b o e n (by simp)) (fun b o _ e => u.there b o e (by simp)) u.tups u.frzs u.tbls (fun m' hm => by
    obtain ⟨o', es', ep', ho', r'⟩ := hm
    rw [ho] at ho'; cases ho'
    exact ⟨_, es', ep', hL, r'⟩) hok I.bare
theorem Inv.call {g' : Array GenState} {t' : Nat} {d' : Drawn} {ch : List Addr} (I : Inv X pins σ H s) (u : Un (frs X.stack) ch H H' s.heap h') (hok : HOk X.prog X.w H' h') (hg : AllBare g')
    (hch : ∀ b ∈ ch, (b ∈ X.ex ∨ X.s_0.heap.objs.size ≤ b) ∧ b ≠ X.env.locals ∧ (∀ x c, X.env.cells.lookup x = some c → c ≠ b) ∧ ∀ p ∈ X.pn ++ pins, p.1 ≠ b) :
    Inv X pins σ H' { s with heap := h', gens := g', drawn := d', toks := t' } := by
  obtain ⟨m, ⟨o, es, ep, ho, r⟩, _⟩ := id I.loc
  obtain ⟨sl, hL⟩ := u.any ho I.free fun z => (hch _ z).2.1 rfl
  exact I.step (ch := ch) hch (fun b o hL hb hc e n => u.keep b o e n (fun z => (List.mem_cons.mp (I.stkSub b z)).elim hL hb) hc) (fun b o _ _ hc e n => u.any e n hc) (fun b o hc e n => u.free b o e n hc) (fun b o hc e => u.there b o e hc) u.tups u.frzs u.tbls (fun m' hm => by
    obtain ⟨o', es', ep', ho', r'⟩ := hm
    rw [ho] at ho'; cases ho'
    exact ⟨_, es', ep', hL, r'⟩) hok hg
theorem Inv.turned {t' : Nat} {it : Addr} (I : Inv X pins σ H s) (k : ∀ b o, b ≠ it → s.heap.get? b = some o → h'.get? b = some o) (hn : H it = none) (hL : it ≠ X.env.locals)
    (h1 : it ∈ X.ex ∨ X.s_0.heap.objs.size ≤ it) (h2 : ∀ x c, X.env.cells.lookup x = some c → c ≠ it) (h3 : ∀ p ∈ X.pn ++ pins, p.1 ≠ it) : Inv X pins σ H { s with heap := h', toks := t' } := by
  have nit : ∀ b u, H b = some u → b ≠ it := fun b u e z => by rw [z, hn] at e; cases e
  refine I.step (g' := s.gens) (d' := s.drawn) (ch := [it]) (fun b hb => ?_) (fun b o _ _ hc e _ => k b o (fun z => hc (by simp [z])) e) (fun b o _ _ hc e _ => ⟨o.slots, k b o (fun z => hc (by simp [z])) e⟩) (fun _ _ _ _ n => n)
    (fun b o hc e => ⟨o, k b o (fun z => hc (by simp [z])) e⟩) (fun _ _ e => e) (fun _ _ _ e => e) (fun b ps e => ⟨#[], by rw [e]; simp⟩) (fun m hm => ?_) (fun b u e => ?_) I.bare
  · have e : b = it := by simpa using hb
    subst e
    exact ⟨h1, hL, h2, h3⟩
  · obtain ⟨o, es, ep, ho, r⟩ := hm
    exact ⟨o, es, ep, k _ o (Ne.symm hL) ho, r⟩
  · refine (I.hok b u e).stay (fun c v hc q => k c v ?_ q) (fun _ q => q) fun _ _ q => q
    rcases hc with z | z
    · rw [z]; exact nit b u e
    · exact nit c _ z
theorem Inv.tok (I : Inv X pins σ H s) (t : Nat) : Inv X pins σ H { s with toks := t } := I.un (h' := s.heap) (t' := t) Un.refl I.hok
theorem Inv.kept {t' : Nat} (I : Inv X pins σ H s) (k : ∀ b u, s.heap.get? b = some u → h'.get? b = some u) : Inv X pins σ H { s with heap := h', toks := t' } := I.un (Un.kept k) (I.hok.kept k)
theorem Inv.laid {a : Addr} {o : HO} {t' : Nat} (I : Inv X pins σ H s) (k : ∀ b u, s.heap.get? b = some u → h'.get? b = some u) (hp : s.heap.objs.size ≤ a) (new : ObjOk X.prog X.w (upd H a o) h' a o) :
    Inv X pins σ (upd H a o) { s with heap := h', toks := t' } := I.un (Un.laid k hp (I.hok.fresh hp)) (I.hok.laid k hp new)
theorem Inv.write {x e : Addr} {o : HO} {t' : Nat} (I : Inv X pins σ H s) (mu : Mut (H x)) (he : e = x ∨ H e = some (.own x)) (k : ∀ b u, b ≠ e → s.heap.get? b = some u → h'.get? b = some u) (heo : ∃ u, h'.get? e = some u)
    (new : ObjOk X.prog X.w (upd H x o) h' x o) : Inv X pins σ (upd H x o) { s with heap := h', toks := t' } := I.un (Un.write mu he k heo) (I.hok.write mu he k heo new)
theorem Inv.weak {σ' : List (Option V)} (I : Inv X pins σ H s) (hl : σ'.length = σ.length) (w : ∀ (i : Nat) v, σ'[i]? = some (some v) → σ[i]? = some (some v)) : Inv X pins σ' H s :=
  ⟨I.ok, I.os, I.bare, I.base, let ⟨m, hn, hl'⟩ := I.loc; ⟨m, hn, fun i x v e1 e2 e3 => hl' i x v e1 (w i v e2) e3⟩, I.cell, I.free, I.freeC, I.pin, I.hok, hl.trans I.len⟩
theorem Inv.pins_of {pins' : List (Addr × Obj)} (I : Inv X pins σ H s) (h : ∀ p ∈ pins', s.heap.get? p.1 = some p.2 ∧ H p.1 = none ∧ p.1 ≠ X.env.locals ∧ p.1 ∉ X.fs ∧ ∀ v, p.2.data ≠ .cell v) : Inv X pins' σ H s :=
  ⟨I.ok, I.os, I.bare, I.base, I.loc, I.cell, I.free, I.freeC, fun p hp => (List.mem_append.mp hp).elim (fun z => I.pin p (List.mem_append_left _ z)) (h p), I.hok, I.len⟩
theorem nodup_ix {N : List Str} (hN : N.Nodup) {i j : Nat} {x : Str} (a : N[i]? = some x) (b : N[j]? = some x) : i = j := by
  obtain ⟨h1, e1⟩ := List.getElem?_eq_some_iff.mp a
  obtain ⟨h2, e2⟩ := List.getElem?_eq_some_iff.mp b
  exact (List.getElem_inj hN).mp (e1.trans e2.symm)
theorem store_ok2 {M : Model} {A : Around} {E : Value → Shared → Prop} {i : Nat} {x : Str} {v : V} {u : Value} {Q : Unit → Shared → Prop} (I : Inv X pins σ H s) (hN : X.N.Nodup) (hi : X.N[i]? = some x) (hx : Loc X.env.scope x) (r : RelV v u)
    (h : ∀ s', Inv X pins (σ.set i (some v)) H s' → (∃ a, Heap.SameBut a s.heap s'.heap ∧ (a = X.env.locals ∨ X.env.cells.lookup x = some a)) → Q () s') (hf : X.fn x = true ∨ X.env.scope.names.lookup x = some .local := by first | exact .inl rfl | exact .inr rfl | assumption) : wpAny M A (storeName X.env x u) Q E s := by
  obtain ⟨m, hn, hl⟩ := id I.loc
  have hcls : (X.env.scope.kind == .class || (X.env.scope.kind == .module && X.env.locals != X.env.globals)) = false := by rw [I.ok.kind]; rfl
  have hiσ : i < σ.length := by rw [I.len]; exact (List.getElem?_eq_some_iff.mp hi).1
  have cne := I.cne
  have tracked : ∀ {a : Addr} {h' : Heap}, (∃ o, s.heap.get? a = some o ∧ H a = none) → Heap.SameBut a s.heap h' → HOk X.prog X.w H h' := fun {a h'} ha hs b ob e => by
    obtain ⟨_, _, hfree⟩ := ha
    refine (I.hok b ob e).stay (fun c w' hc q => (hs.2 c ?_).trans q) (fun _ q => q) fun _ _ q => q
    rintro rfl
    rcases hc with rfl | hc
    · rw [hfree] at e; cases e
    · rw [hfree] at hc; cases hc
  rcases hx with hk | hk
  · refine wpAny_storeName_local hk hn (fun h' hn' hs => ?_) hcls
    obtain ⟨oL, _, _, hoL, _⟩ := id hn
    refine h _ ⟨I.ok, I.os, I.bare, ⟨fun b o e n hb hx => ?_, fun b o e n hb hx => ?_, I.base.free, fun b o e hx => ?_, I.base.tups, I.base.frzs, I.base.tbls⟩, ⟨_, hn', fun j y v' e1 e2 e3 => ?_⟩, fun y c e => ?_, I.free, I.freeC, fun p hp => ?_, tracked ⟨oL, hoL, I.free⟩ hs, by simpa using I.len⟩ ⟨_, hs, .inl rfl⟩
    · exact (hs.2 b (Nat.ne_of_lt (Nat.lt_of_lt_of_le (Heap.lt_size e) I.ok.above))).trans (I.base.keep b o e n hb hx)
    · obtain ⟨sl, e1⟩ := I.base.slot b o e n hb hx
      exact ⟨sl, (hs.2 b (Nat.ne_of_lt (Nat.lt_of_lt_of_le (Heap.lt_size e) I.ok.above))).trans e1⟩
    · obtain ⟨o', e1⟩ := I.base.there b o e hx
      exact ⟨o', (hs.2 b (Nat.ne_of_lt (Nat.lt_of_lt_of_le (Heap.lt_size e) I.ok.above))).trans e1⟩
    · by_cases hj : j = i
      · subst hj
        rw [hi] at e1; cases e1
        rw [List.getElem?_set_self hiσ] at e2
        cases e2
        exact ⟨u, r, .inl ⟨hk, by simp⟩⟩
      · rw [List.getElem?_set_ne (Ne.symm hj)] at e2
        obtain ⟨u', r', q⟩ := hl j y v' e1 e2 e3
        refine ⟨u', r', ?_⟩
        rcases q with ⟨k, e⟩ | ⟨k, c, e, z⟩
        · refine .inl ⟨k, ?_⟩
          have : y ≠ x := fun e => hj (nodup_ix hN e1 (e ▸ hi))
          simp [this, e]
        · exact .inr ⟨k, c, e, z.sameBut hs (cne y c e)⟩
    · obtain ⟨w', z⟩ := I.cell y c e
      exact ⟨w', z.sameBut hs (cne y c e)⟩
    · obtain ⟨e, n, ne, nf, d⟩ := I.pin p hp
      exact ⟨(hs.2 p.1 ne).trans e, n, ne, nf, d⟩
  · have hfn : X.fn x = true := by
      rcases hf with z | z
      · exact z
      · rw [z] at hk; cases hk
    obtain ⟨c, hc⟩ := I.ok.has x (.inl hk)
    obtain ⟨w', z⟩ := I.cell x c hc
    refine wpAny_storeName_cell I.ok.kind hk hc z (fun h' hc' hs => ?_)
    obtain ⟨oc, hoc, hocd⟩ := id z
    refine h { s with heap := h' } ⟨I.ok, I.os, I.bare, ⟨fun b o e n hb hx => ?_, fun b o e n hb hx => ?_, I.base.free, fun b o e hx => ?_, I.base.tups, I.base.frzs, I.base.tbls⟩, ⟨m, hn.sameBut hs (Ne.symm (cne x c hc)), fun j y v' e1 e2 e3 => ?_⟩, fun y c' e => ?_, I.free, I.freeC, fun p hp => ?_, tracked ⟨oc, hoc, I.freeC x c hc⟩ hs, by simpa using I.len⟩ ⟨c, hs, .inr hc⟩
    · exact (hs.2 b (Nat.ne_of_lt (Nat.lt_of_lt_of_le (Heap.lt_size e) (I.ok.cab x c hfn hc)))).trans (I.base.keep b o e n hb hx)
    · obtain ⟨sl, e1⟩ := I.base.slot b o e n hb hx
      exact ⟨sl, (hs.2 b (Nat.ne_of_lt (Nat.lt_of_lt_of_le (Heap.lt_size e) (I.ok.cab x c hfn hc)))).trans e1⟩
    · obtain ⟨o', e1⟩ := I.base.there b o e hx
      exact ⟨o', (hs.2 b (Nat.ne_of_lt (Nat.lt_of_lt_of_le (Heap.lt_size e) (I.ok.cab x c hfn hc)))).trans e1⟩
    · by_cases hj : j = i
      · subst hj
        rw [hi] at e1; cases e1
        rw [List.getElem?_set_self hiσ] at e2
        cases e2
        exact ⟨u, r, .inr ⟨.inl hk, c, hc, hc'⟩⟩
      · rw [List.getElem?_set_ne (Ne.symm hj)] at e2
        obtain ⟨u', r', q⟩ := hl j y v' e1 e2 e3
        refine ⟨u', r', ?_⟩
        rcases q with q | ⟨k, c', e, z'⟩
        · exact .inl q
        · refine .inr ⟨k, c', e, z'.sameBut hs ?_⟩
          rintro rfl
          exact hj (nodup_ix hN e1 (I.ok.inj _ _ _ e hc ▸ hi))
    · by_cases hcc : c' = c
      · subst hcc; exact ⟨_, hc'⟩
      · obtain ⟨w2, z2⟩ := I.cell y c' e
        exact ⟨w2, z2.sameBut hs hcc⟩
    · obtain ⟨e, n, ne, nf, d⟩ := I.pin p hp
      refine ⟨(hs.2 p.1 ?_).trans e, n, ne, nf, d⟩
      intro q
      rw [q, hoc] at e
      have q' : oc = p.2 := Option.some.inj e
      exact d w' (by rw [← q']; exact hocd)
theorem store_ok {M : Model} {A : Around} {E : Value → Shared → Prop} {i : Nat} {x : Str} {v : V} {u : Value} {Q : Unit → Shared → Prop} (I : Inv X pins σ H s) (hN : X.N.Nodup) (hi : X.N[i]? = some x) (hx : Loc X.env.scope x) (r : RelV v u)
    (h : ∀ s', Inv X pins (σ.set i (some v)) H s' → Q () s') (hf : X.fn x = true ∨ X.env.scope.names.lookup x = some .local := by first | exact .inl rfl | exact .inr rfl | assumption) : wpAny M A (storeName X.env x u) Q E s :=
  store_ok2 I hN hi hx r (fun s' I' _ => h s' I') hf
theorem Inv.call' {s' : Shared} {ch : List Addr} (I : Inv X pins σ H s) (ho : s'.os = s.os) (u : Un (frs X.stack) ch H H' s.heap s'.heap) (hok : HOk X.prog X.w H' s'.heap) (hg : AllBare s'.gens)
    (hch : ∀ b ∈ ch, (b ∈ X.ex ∨ X.s_0.heap.objs.size ≤ b) ∧ b ≠ X.env.locals ∧ (∀ x c, X.env.cells.lookup x = some c → c ≠ b) ∧ ∀ p ∈ X.pn ++ pins, p.1 ≠ b) : Inv X pins σ H' s' := by
  obtain ⟨h', g', d', t', o'⟩ := s'
  have e : o' = s.os := ho
  subst e
  exact I.call (g' := g') (t' := t') (d' := d') u hok hg hch
end
abbrev XK := Value → Option Addr → Hp → Prop
abbrev St := List (Option V)
abbrev VK := V → Hp → Prop
abbrev TE := St → Hp → VK → Prop
abbrev TT := St → Hp → (Bool → Hp → Prop) → Prop
abbrev TA := St → Hp → (List V → Hp → Prop) → Prop
structure Ends where
  nx : St → Hp → Prop
  rt : VK
  bk : St → Hp → Prop := fun _ _ => False
  ct : St → Hp → Prop := fun _ _ => False
abbrev TS := Ends → St → Hp → Prop
def EP (X : Cx) (pins : List (Addr × Obj)) (σ : St) (Q : VK) (u : Value) (s' : Shared) : Prop := ∃ v H', Inv X pins σ H' s' ∧ RelV v u ∧ Q v H'
def TP (X : Cx) (pins : List (Addr × Obj)) (σ : St) (Q : Bool → Hp → Prop) (b : Bool) (s' : Shared) : Prop := ∃ H', Inv X pins σ H' s' ∧ Q b H'
def AP (X : Cx) (pins : List (Addr × Obj)) (σ : St) (Q : List V → Hp → Prop) (us : List Value) (s' : Shared) : Prop := ∃ vs H', Inv X pins σ H' s' ∧ Vals vs us ∧ Q vs H'
def SP (X : Cx) (pins : List (Addr × Obj)) (D : Ends) (f : Flow) (s' : Shared) : Prop :=
  match f with
  | .next => ∃ σ' H', Inv X pins σ' H' s' ∧ D.nx σ' H'
  | .brk => ∃ σ' H', Inv X pins σ' H' s' ∧ D.bk σ' H'
  | .cont => ∃ σ' H', Inv X pins σ' H' s' ∧ D.ct σ' H'
  | .ret u => ∃ v σ' H', Inv X pins σ' H' s' ∧ RelV v u ∧ D.rt v H'
def PE (X : Cx) (e : Expr) (t : TE) : Prop :=
  ∀ (pins : List (Addr × Obj)) (s : Shared) (σ : St) (H : Hp) (Q : VK), Inv X pins σ H s → t σ H Q → wpAny (model X.prog X.w) X.A (eval e X.env) (EP X pins σ Q) X.xe s
def PT (X : Cx) (e : Expr) (t : TT) : Prop :=
  ∀ (pins : List (Addr × Obj)) (s : Shared) (σ : St) (H : Hp) (Q : Bool → Hp → Prop), Inv X pins σ H s → t σ H Q → wpAny (model X.prog X.w) X.A (isTrue e X.env (eval e X.env)) (TP X pins σ Q) X.xe s
def PW (X : Cx) (e : Expr) (t : TT) : Prop :=
  ∀ (whole : Sem Value) (pins : List (Addr × Obj)) (s : Shared) (σ : St) (H : Hp) (Q : Bool → Hp → Prop), Inv X pins σ H s → t σ H Q → wpAny (model X.prog X.w) X.A (isTrue e X.env whole) (TP X pins σ Q) X.xe s
theorem PW.pt {X : Cx} {e : Expr} {t : TT} (h : PW X e t) : PT X e t := h _
def PA (X : Cx) (es : List Expr) (t : TA) : Prop :=
  ∀ (pos : Pos) (pins : List (Addr × Obj)) (s : Shared) (σ : St) (H : Hp) (Q : List V → Hp → Prop), Inv X pins σ H s → t σ H Q → wpAny (model X.prog X.w) X.A (spliced (backTo pos (starEach es X.env))) (AP X pins σ Q) X.xe s
def PS (X : Cx) (st : Stmt) (t : TS) : Prop :=
  ∀ (pins : List (Addr × Obj)) (s : Shared) (σ : St) (H : Hp) (D : Ends), Inv X pins σ H s → t D σ H → wpAny (model X.prog X.w) X.A (exec st X.env) (SP X pins D) X.xe s
def PSs (X : Cx) (st : List Stmt) (t : TS) : Prop :=
  ∀ (pins : List (Addr × Obj)) (s : Shared) (σ : St) (H : Hp) (D : Ends), Inv X pins σ H s → t D σ H → wpAny (model X.prog X.w) X.A (execs st X.env) (SP X pins D) X.xe s
theorem thn {α : Type} {t : Sem α} {Q Q' : α → Shared → Prop} {M : Model} {A : Around} {E : Value → Shared → Prop} {s : Shared} (h : wpAny M A t Q E s) (hQ : ∀ a s, Q a s → Q' a s) : wpAny M A t Q' E s := wpAny_mono h hQ fun _ _ x => x
end L2
namespace L2
open PySem PySem.Spec PyProof.Rows
section
variable {X : Cx}
def tVar (i : Nat) : TE := fun σ H Q => ∃ v, σ[i]? = some (some v) ∧ Q v H
def tC (v : V) : TE := fun _ H Q => Q v H
theorem pe_var {i : Nat} {x : Str} {pos : Pos} (hN : X.N[i]? = some x) (hv : Vis X.env.scope x) (hd : (x == ("__debug__" : Str)) = false := by decide) (hcd : (x == ("__classdict__" : Str)) = false := by decide) : PE X (.Name x pos) (tVar i) := by
  intro pins s σ H Q I h
  obtain ⟨v, e, h⟩ := h
  obtain ⟨m, hn, hl⟩ := I.loc
  obtain ⟨u, r, l⟩ := hl i x v hN e hv
  have fin : EP X pins σ Q u s := ⟨v, H, I, r, h⟩
  rcases l with ⟨hk, hm⟩ | ⟨hk, c, hc, hcell⟩
  · exact wpAny_Name (wpAny_loadName_local I.ok.kind hk hn hm fin) hd
  · rcases hk with hk | hk
    · exact wpAny_Name (wpAny_loadName_cell I.ok.kind hk hc hcell fin) hd
    · exact wpAny_Name (wpAny_loadName_free I.ok.kind hk hc hcell fin hcd) hd
theorem pe_int {i j pos} : PE X (.Constant (.int i) j pos) (tC (.int i)) := fun _ _ _ H _ I h => wpAny_Constant_int ⟨.int i, H, I.tok _, ⟨_, rfl⟩, h⟩
theorem pe_bl {b j pos} : PE X (.Constant (.bool b) j pos) (tC (.bl b)) := fun _ _ _ H _ I h => Constant_bool ⟨.bl b, H, I, rfl, h⟩
theorem pe_non {j pos} : PE X (.Constant .none j pos) (tC .non) := fun _ _ _ H _ I h => Constant_none ⟨.non, H, I, rfl, h⟩
theorem pe_str {x j pos} : PE X (.Constant (.str x) j pos) (tC (.str x)) := fun _ _ _ H _ I h => Calls.Constant_str ⟨.str x, H, I.tok _, ⟨_, rfl⟩, h⟩
def Gl (X : Cx) (x : Str) : Prop := X.env.kindOf x = some .globalImplicit
theorem ld_glob {E : Value → Shared → Prop} {pins : List (Addr × Obj)} {s : Shared} {σ : St} {H : Hp} {x : Str} {u : Value} {pos : Pos} {Q : Value → Shared → Prop} (I : Inv X pins σ H s) (hg : Gl X x) (hm : X.mg x = some u) (h : Q u s)
    (hd : (x == ("__debug__" : Str)) = false := by decide) : wpAny (model X.prog X.w) X.A (eval (.Name x pos) X.env) Q E s :=
  Calls.Name_function_global I.ok.kind hg (Calls.loadGlobal_global (by rw [I.ok.glob]; exact I.mod.glob.keeps I.bk) hm h) hd
theorem ld_blt {E : Value → Shared → Prop} {pins : List (Addr × Obj)} {s : Shared} {σ : St} {H : Hp} {x : Str} {u : Value} {pos : Pos} {Q : Value → Shared → Prop} (I : Inv X pins σ H s) (hg : Gl X x) (hm : X.mg x = none) (hv : bootBuiltins x = some u) (h : Q u s)
    (hn : x ≠ "__name__" := by decide) (hd : (x == ("__debug__" : Str)) = false := by decide) : wpAny (model X.prog X.w) X.A (eval (.Name x pos) X.env) Q E s := by
  obtain ⟨mb, h1, h2⟩ := I.mod.blt
  exact Calls.Name_function_global I.ok.kind hg (Calls.loadGlobal_builtin (by rw [I.ok.glob]; exact I.mod.glob.keeps I.bk) hm (by rw [I.ok.blt]; exact h1.keeps I.bk) ((h2 x hn).trans hv) h) hd
theorem pe_glob {x : Str} {v : V} {u : Value} {pos : Pos} (hg : Gl X x) (hm : X.mg x = some u) (r : RelV v u) (hd : (x == ("__debug__" : Str)) = false := by decide) : PE X (.Name x pos) (tC v) :=
  fun _ _ _ H _ I h => ld_glob I hg hm ⟨v, H, I, r, h⟩ hd
theorem pe_bltn {x : Str} {v : V} {u : Value} {pos : Pos} (hg : Gl X x) (hm : X.mg x = none) (hv : bootBuiltins x = some u) (r : RelV v u) (hn : x ≠ "__name__" := by decide) (hd : (x == ("__debug__" : Str)) = false := by decide) : PE X (.Name x pos) (tC v) :=
  fun _ _ _ H _ I h => ld_blt I hg hm hv ⟨v, H, I, r, h⟩ hn hd
def t2I (ta tb : TE) (k : Int → Int → Hp → Prop) : St → Hp → Prop := fun σ H => ta σ H fun x H1 => tb σ H1 fun y H2 => ∃ i j, x = .int i ∧ y = .int j ∧ k i j H2
def tAdd (ta tb : TE) : TE := fun σ H Q => t2I ta tb (fun i j H2 => Q (.int (i + j)) H2) σ H
def tSub (ta tb : TE) : TE := fun σ H Q => t2I ta tb (fun i j H2 => Q (.int (i - j)) H2) σ H
def tMul (ta tb : TE) : TE := fun σ H Q => t2I ta tb (fun i j H2 => (-(2 ^ 64) < i ∧ i < 2 ^ 64) ∧ Q (.int (i * j)) H2) σ H
variable {a b : Expr} {ta tb : TE} {pos : Pos}
def PC (X : Cx) (op : CmpOp) (a b : Expr) (t : TE) : Prop :=
  ∀ (pins : List (Addr × Obj)) (s : Shared) (σ : St) (H : Hp) (Q : VK), Inv X pins σ H s → t σ H Q →
    wpAny (model X.prog X.w) X.A (eval a X.env) (fun v s₁ => wpAny (model X.prog X.w) X.A (eval b X.env) (fun u s₂ => wpAny (model X.prog X.w) X.A (compareOp op v u) (EP X pins σ Q) X.xe s₂) X.xe s₁) X.xe s
def tCmp (p : Int → Int → Bool) (ta tb : TE) : TE := fun σ H Q => t2I ta tb (fun i j H2 => Q (.bl (p i j)) H2) σ H
abbrev tLt : TE → TE → TE := tCmp fun i j => decide (i < j)
abbrev tLe : TE → TE → TE := tCmp fun i j => decide (i ≤ j)
abbrev tGt : TE → TE → TE := tCmp fun i j => decide (j < i)
abbrev tGe : TE → TE → TE := tCmp fun i j => decide (j ≤ i)
abbrev tEqI : TE → TE → TE := tCmp fun i j => decide (i = j)
abbrev tNeI : TE → TE → TE := tCmp fun i j => !decide (i = j)
def tIsN (ta : TE) : TE := fun σ H Q => ta σ H fun x H1 => Q (.bl (decide (x = .non))) H1
def tNotN (ta : TE) : TE := fun σ H Q => ta σ H fun x H1 => Q (.bl (!decide (x = .non))) H1
def tB (t : TE) : TT := fun σ H Q => t σ H fun x H1 => ∃ c, x = .bl c ∧ Q c H1
variable {tA tB' : TT} {rest : List Expr}
def tAnd (t u : TT) : TT := fun σ H Q => t σ H fun c H1 => if c = true then u σ H1 Q else Q false H1
def tOr (t u : TT) : TT := fun σ H Q => t σ H fun c H1 => if c = true then Q true H1 else u σ H1 Q
def tNot (t : TT) : TT := fun σ H Q => t σ H fun c H1 => Q (!c) H1
theorem pw_and1 (ha : PT X a tA) : PW X (.BoolOp .And [a] pos) tA := by
  intro wh pins s σ H Q I h
  refine isTrue_and (thn (ha pins s σ H Q I h) fun c s1 e => ?_)
  cases c with
  | true => exact isTrue_and_nil e
  | false => exact e
theorem pw_or1 (ha : PT X a tA) : PW X (.BoolOp .Or [a] pos) tA := by
  intro wh pins s σ H Q I h
  refine isTrue_or (thn (ha pins s σ H Q I h) fun c s1 e => ?_)
  cases c with
  | false => exact isTrue_or_nil e
  | true => exact e
theorem pw_and (ha : PT X a tA) (hb : PW X (.BoolOp .And (b :: rest) pos) tB') : PW X (.BoolOp .And (a :: b :: rest) pos) (tAnd tA tB') := by
  intro wh pins s σ H Q I h
  refine isTrue_and (thn (ha pins s σ H _ I h) fun c s1 ⟨H1, I1, q1⟩ => ?_)
  cases c with
  | true => exact hb wh pins s1 σ H1 Q I1 q1
  | false => exact ⟨H1, I1, q1⟩
theorem pw_or (ha : PT X a tA) (hb : PW X (.BoolOp .Or (b :: rest) pos) tB') : PW X (.BoolOp .Or (a :: b :: rest) pos) (tOr tA tB') := by
  intro wh pins s σ H Q I h
  refine isTrue_or (thn (ha pins s σ H _ I h) fun c s1 ⟨H1, I1, q1⟩ => ?_)
  cases c with
  | true => exact ⟨H1, I1, q1⟩
  | false => exact hb wh pins s1 σ H1 Q I1 q1
theorem pt_not (ha : PT X a tA) : PT X (.UnaryOp .Not a pos) (tNot tA) := by
  intro pins s σ H Q I h
  exact isTrue_not (ha pins s σ H (fun c H1 => Q (!c) H1) I h)
def tAndV (ta tb : TE) : TE := fun σ H Q => ta σ H fun x H1 => ∃ c, x = .bl c ∧ if c = true then tb σ H1 Q else Q (.bl false) H1
def tOrV (ta tb : TE) : TE := fun σ H Q => ta σ H fun x H1 => ∃ c, x = .bl c ∧ if c = true then Q (.bl true) H1 else tb σ H1 Q
def tNotV (ta : TE) : TE := fun σ H Q => ta σ H fun x H1 => ∃ c, x = .bl c ∧ Q (.bl (!c)) H1
theorem pe_one {op} {t : TE} (h : PE X a t) : PE X (.BoolOp op [a] pos) t := fun pins s σ H Q I hw => BoolOp_one (h pins s σ H Q I hw)
theorem pe_and (ha : PE X a ta) (hb : PE X (.BoolOp .And (b :: rest) pos) tb) : PE X (.BoolOp .And (a :: b :: rest) pos) (tAndV ta tb) := by
  intro pins s σ H Q I h
  refine BoolOp_and (thn (ha pins s σ H _ I h) fun v s1 ⟨x, H1, I1, r1, q1⟩ => ?_)
  obtain ⟨c, rfl, q1⟩ := q1
  cases r1
  refine wpAny_truthy_bool ?_
  cases c with
  | true => exact hb pins s1 σ H1 Q I1 q1
  | false => exact ⟨.bl false, H1, I1, rfl, q1⟩
theorem pe_or (ha : PE X a ta) (hb : PE X (.BoolOp .Or (b :: rest) pos) tb) : PE X (.BoolOp .Or (a :: b :: rest) pos) (tOrV ta tb) := by
  intro pins s σ H Q I h
  refine BoolOp_or (thn (ha pins s σ H _ I h) fun v s1 ⟨x, H1, I1, r1, q1⟩ => ?_)
  obtain ⟨c, rfl, q1⟩ := q1
  cases r1
  refine wpAny_truthy_bool ?_
  cases c with
  | false => exact hb pins s1 σ H1 Q I1 q1
  | true => exact ⟨.bl true, H1, I1, rfl, q1⟩
theorem pe_not (ha : PE X a ta) : PE X (.UnaryOp .Not a pos) (tNotV ta) := by
  intro pins s σ H Q I h
  refine UnaryOp_ (thn (ha pins s σ H _ I h) fun v s1 ⟨x, H1, I1, r1, q1⟩ => ?_)
  obtain ⟨c, rfl, q1⟩ := q1
  cases r1
  exact not_of (wpAny_truthy_bool ⟨.bl (!c), H1, I1, rfl, q1⟩)
def tIf (t : TT) (ta tb : TE) : TE := fun σ H Q => t σ H fun c H1 => if c = true then ta σ H1 Q else tb σ H1 Q
end
end L2
namespace L2
open PySem PySem.Spec PyProof.Rows
def SqL (K : PySem.W.Frag) (H : Hp) (a : Addr) (xs : List V) : Prop :=
  Rd H a (.lst xs) ∨
    ∃ (o : Obj) (its : Array Value) (n : Nat), K.lookup a = some o ∧ o.cls = .type "list" ∧ o.dict = none ∧ o.data = .seq its n ∧ its.size ≤ sizeLine ∧ Vals xs its.toList
def SqT (K : PySem.W.Frag) (H : Hp) (a : Addr) (xs : List V) : Prop :=
  Rd H a (.tup xs) ∨
    ∃ (o : Obj) (its : Array Value) (n : Nat), K.lookup a = some o ∧ o.cls = .type "tuple" ∧ o.dict = none ∧ o.data = .seq its n ∧ its.size ≤ sizeLine ∧ Vals xs its.toList
def absV : Value → Option V
  | .none => some .non
  | .bool b => some (.bl b)
  | .int i _ => some (.int i)
  | .str x _ => some (.str x)
  | .bytes b _ => some (.byt b)
  | .float b _ => some (.flt b)
  | .ref a => some (.ref a)
  | .type n => some (.ty n)
  | _ => none
theorem RelV.abs {x : V} {u : Value} (r : RelV x u) : absV u = some x := by
  cases x with
  | non => cases r; rfl
  | bl _ => cases r; rfl
  | int _ => obtain ⟨t, rfl⟩ := r; rfl
  | str _ => obtain ⟨t, rfl⟩ := r; rfl
  | byt _ => obtain ⟨t, rfl⟩ := r; rfl
  | flt _ => obtain ⟨t, rfl⟩ := r; rfl
  | ref _ => cases r; rfl
  | ty _ => cases r; rfl
theorem RelV.inj {x y : V} {u : Value} (r : RelV x u) (q : RelV y u) : x = y := Option.some.inj (r.abs.symm.trans q.abs)
theorem Vals.inj : ∀ {xs ys : List V} {us : List Value}, Vals xs us → Vals ys us → xs = ys
  | _, _, _, .nil, .nil => rfl
  | _, _, _, .cons r t, .cons r' t' => by rw [r.inj r', Vals.inj t t']
section
variable {X : Cx} {pins : List (Addr × Obj)} {σ : St} {H : Hp} {s : Shared} {a : Addr} {xs ys : List V}
theorem SqL.of {K : PySem.W.Frag} (h : H a = some (.lst xs)) : SqL K H a xs := .inl (.inl h)
theorem SqT.of {K : PySem.W.Frag} (h : H a = some (.tup xs)) : SqT K H a xs := .inl (.inl h)
theorem Inv.list (I : Inv X pins σ H s) (h : SqL X.K H a xs) : ∃ its : List Value, Vals xs its ∧ PlainL s.heap a its.toArray ∧ xs.length ≤ sizeLine := by
  rcases h with h | ⟨o, its, n, hk, hc, hd, hs, hz, r⟩
  · obtain ⟨z, its, n, r, e⟩ := h.ok I.hok
    exact ⟨its, r, ⟨_, n, e, rfl, rfl, rfl⟩, z⟩
  · refine ⟨its.toList, r, ⟨o, n, I.kIn a o hk, hc, hd, by simpa using hs⟩, ?_⟩
    have e := r.length
    simp only [Array.length_toList] at e
    omega
theorem Inv.tuple (I : Inv X pins σ H s) (h : SqT X.K H a xs) : ∃ its : List Value, Vals xs its ∧ IsTup s.heap a its.toArray ∧ xs.length ≤ sizeLine := by
  rcases h with h | ⟨o, its, n, hk, hc, _, hs, hz, r⟩
  · obtain ⟨z, its, r, p⟩ := h.ok I.hok
    exact ⟨its, r, p.tup, z⟩
  · refine ⟨its.toList, r, ⟨o, I.kIn a o hk, hc, n, by simpa using hs⟩, ?_⟩
    have e := r.length
    simp only [Array.length_toList] at e
    omega
theorem Inv.list_inj (I : Inv X pins σ H s) (h : SqL X.K H a xs) (h' : SqL X.K H a ys) : xs = ys := by
  obtain ⟨its, r, ⟨o, n, e, _, _, d⟩, _⟩ := I.list h
  obtain ⟨its', r', ⟨o', n', e', _, _, d'⟩, _⟩ := I.list h'
  rw [e] at e'; cases e'
  rw [d] at d'
  injection d' with d1 _
  have : its = its' := by simpa using congrArg Array.toList d1
  subst this
  exact r.inj r'
theorem Inv.tuple_inj (I : Inv X pins σ H s) (h : SqT X.K H a xs) (h' : SqT X.K H a ys) : xs = ys := by
  obtain ⟨its, r, ⟨o, e, _, n, d⟩, _⟩ := I.tuple h
  obtain ⟨its', r', ⟨o', e', _, n', d'⟩, _⟩ := I.tuple h'
  rw [e] at e'; cases e'
  rw [d] at d'
  injection d' with d1 _
  have : its = its' := by simpa using congrArg Array.toList d1
  subst this
  exact r.inj r'
end
abbrev Cx.wish (X : Cx) (E : Value → Shared → Prop) : Cx := { X with xe := E }
abbrev Cx.nox (X : Cx) : Cx := X.wish fun _ _ => False
theorem Cx.Ok.wish {X : Cx} (ok : X.Ok) (E : Value → Shared → Prop) : (X.wish E).Ok :=
  ⟨ok.mod, ok.kind, ok.glob, ok.blt, ok.above, ok.inj, ok.has, ok.cab, ok.hd, ok.frames, ok.stk, ok.exf, ok.bs, ok.bsz, ok.noex, ok.exfs, ok.funs, ok.frf⟩
theorem Cx.Ok.unwish {X : Cx} {E : Value → Shared → Prop} (ok : (X.wish E).Ok) : X.Ok :=
  ⟨ok.mod, ok.kind, ok.glob, ok.blt, ok.above, ok.inj, ok.has, ok.cab, ok.hd, ok.frames, ok.stk, ok.exf, ok.bs, ok.bsz, ok.noex, ok.exfs, ok.funs, ok.frf⟩
section
variable {X : Cx} {pins : List (Addr × Obj)} {σ : St} {H : Hp} {s : Shared} {E : Value → Shared → Prop}
theorem Inv.wish (I : Inv X pins σ H s) (E : Value → Shared → Prop) : Inv (X.wish E) pins σ H s := ⟨I.ok.wish E, I.os, I.bare, I.base, I.loc, I.cell, I.free, I.freeC, I.pin, I.hok, I.len⟩
theorem Inv.unwish (I : Inv (X.wish E) pins σ H s) : Inv X pins σ H s := ⟨I.ok.unwish, I.os, I.bare, I.base, I.loc, I.cell, I.free, I.freeC, I.pin, I.hok, I.len⟩
theorem SP.unwish {D : Ends} {f : Flow} {s' : Shared} (h : SP (X.wish E) pins D f s') : SP X pins D f s' := by
  cases f with
  | next => obtain ⟨σ', H', I, q⟩ := h; exact ⟨σ', H', I.unwish, q⟩
  | brk => obtain ⟨σ', H', I, q⟩ := h; exact ⟨σ', H', I.unwish, q⟩
  | cont => obtain ⟨σ', H', I, q⟩ := h; exact ⟨σ', H', I.unwish, q⟩
  | ret u => obtain ⟨v, σ', H', I, r, q⟩ := h; exact ⟨v, σ', H', I.unwish, r, q⟩
theorem PE.nox {e : Expr} {t : TE} (h : PE X.nox e t) : PE X e t := fun pins s σ H Q I hw =>
  wpAny_mono (h pins s σ H Q (I.wish _) hw) (fun _ _ ⟨v, H', I', r, q⟩ => ⟨v, H', I'.unwish, r, q⟩) fun _ _ z => False.elim z
theorem PT.nox {e : Expr} {t : TT} (h : PT X.nox e t) : PT X e t := fun pins s σ H Q I hw =>
  wpAny_mono (h pins s σ H Q (I.wish _) hw) (fun _ _ ⟨H', I', q⟩ => ⟨H', I'.unwish, q⟩) fun _ _ z => False.elim z
theorem PSs.nox {st : List Stmt} {t : TS} (h : PSs X.nox st t) : PSs X st t := fun pins s σ H D I hw =>
  wpAny_mono (h pins s σ H D (I.wish _) hw) (fun _ _ q => q.unwish) fun _ _ z => False.elim z
end
section
variable {X : Cx} {st : Stmt} {rest : List Stmt} {t u : TS} {e : Expr} {te : TE} {pos : Pos}
def tNext : TS := fun D σ H => D.nx σ H
def tSeq (t u : TS) : TS := fun D σ H => t { D with nx := u D } σ H
theorem pss_nil : PSs X [] tNext := fun _ _ σ H _ I h => wpAny_execs_nil ⟨σ, H, I, h⟩
theorem pss_cons (h1 : PS X st t) (h2 : PSs X rest u) : PSs X (st :: rest) (tSeq t u) := by
  intro pins s σ H D I h
  refine wpAny_execs_cons (thn (h1 pins s σ H { D with nx := u D } I h) fun f s1 q => ?_)
  cases f with
  | next =>
    obtain ⟨σ', H', I', q⟩ := q
    exact h2 pins s1 σ' H' D I' q
  | ret v => exact q
  | brk => exact q
  | cont => exact q
theorem pss_one (h1 : PS X st t) : PSs X [st] t := by
  intro pins s σ H D I h
  refine wpAny_execs_cons (thn (h1 pins s σ H D I h) fun f s1 q => ?_)
  cases f with
  | next => exact wpAny_execs_nil q
  | ret v => exact q
  | brk => exact q
  | cont => exact q
def tBreak : TS := fun D σ H => D.bk σ H
def tCont : TS := fun D σ H => D.ct σ H
theorem Inv.quiet {pins : List (Addr × Obj)} {σ : St} {H : Hp} {s : Shared} (I : Inv X pins σ H s) : interactive X.env = false := by simp [interactive, I.ok.kind]
def tDrop (te : TE) : TS := fun D σ H => te σ H fun _ H1 => D.nx σ H1
theorem ps_expr (he : PE X e te) (hs : swapsWith e none pos.line X.env = pure false := by rfl) : PS X (.Expr e pos) (tDrop te) := by
  intro pins s σ H D I h
  exact wpAny_Expr_any (thn (he pins s σ H _ I h) fun v s1 ⟨x, H1, I1, r1, q1⟩ => ⟨σ, H1, I1, q1⟩) I.quiet hs
def tRet (te : TE) : TS := fun D σ H => te σ H D.rt
theorem ps_ret (he : PE X e te) : PS X (.Return (some e) pos) (tRet te) := by
  intro pins s σ H D I h
  exact wpAny_Return_some (thn (he pins s σ H _ I h) fun v s1 ⟨x, H1, I1, r1, q1⟩ => ⟨x, σ, H1, I1, r1, q1⟩)
def tRetN : TS := fun D _ H => D.rt .non H
def tIfS (c : TT) (t u : TS) : TS := fun D σ H => c σ H fun b H1 => if b = true then t D σ H1 else u D σ H1
theorem ps_if {c : Expr} {a b : List Stmt} {tc : TT} (hc : PT X c tc) (ha : PSs X a t) (hb : PSs X b u) : PS X (.If c a b pos) (tIfS tc t u) := by
  intro pins s σ H D I h
  refine wpAny_If (thn (hc pins s σ H _ I h) fun d s1 ⟨H1, I1, q1⟩ => ?_)
  cases d with
  | true => exact ha pins s1 σ H1 D I1 q1
  | false => exact hb pins s1 σ H1 D I1 q1
def tNever : TS := fun _ _ _ => False
end
abbrev TG := V → St → Hp → (St → Hp → Prop) → Prop
abbrev TGs := List V → St → Hp → (St → Hp → Prop) → Prop
def PG (X : Cx) (target : Expr) (t : TG) : Prop :=
  ∀ (pins : List (Addr × Obj)) (s : Shared) (σ : St) (H : Hp) (v : V) (u : Value) (Q : St → Hp → Prop), Inv X pins σ H s → RelV v u → t v σ H Q →
    wpAny (model X.prog X.w) X.A (assign target X.env u) (fun _ s' => ∃ σ' H', Inv X pins σ' H' s' ∧ Q σ' H') X.xe s
def PGs (X : Cx) (ts : List Expr) (t : TGs) : Prop :=
  ∀ (pins : List (Addr × Obj)) (s : Shared) (σ : St) (H : Hp) (vs : List V) (us : List Value) (Q : St → Hp → Prop), Inv X pins σ H s → Vals vs us → t vs σ H Q →
    wpAny (model X.prog X.w) X.A (assignInOrder ((assignEach ts X.env).map (·.2)) us) (fun _ s' => ∃ σ' H', Inv X pins σ' H' s' ∧ Q σ' H') X.xe s
abbrev TSet := V → V → V → Hp → (Hp → Prop) → Prop
def PSet (X : Cx) (t : TSet) : Prop :=
  ∀ (pins : List (Addr × Obj)) (s : Shared) (σ : St) (H : Hp) (o i v : V) (ov iv u : Value) (Q : Hp → Prop), Inv X pins σ H s → RelV o ov → RelV i iv → RelV v u → t o i v H Q →
    wpAny (model X.prog X.w) X.A (setItem ov iv u) (fun _ s' => ∃ H', Inv X pins σ H' s' ∧ Q H') X.xe s
abbrev TIp := V → V → Hp → VK → Prop
def PIp (X : Cx) (op : Operator) (t : TIp) : Prop :=
  ∀ (pins : List (Addr × Obj)) (s : Shared) (σ : St) (H : Hp) (x y : V) (v u : Value) (Q : VK), Inv X pins σ H s → RelV x v → RelV y u → t x y H Q →
    wpAny (model X.prog X.w) X.A (inplaceOp op v u) (EP X pins σ Q) X.xe s
section
variable {X : Cx} {pos : Pos}
def gName (i : Nat) : TG := fun v σ H Q => Q (σ.set i (some v)) H
theorem pg_name {i : Nat} {x : Str} (hN : X.N.Nodup) (hi : X.N[i]? = some x) (hx : Loc X.env.scope x) (hf : X.fn x = true ∨ X.env.scope.names.lookup x = some .local := by first | exact .inl rfl | exact .inr rfl | assumption) : PG X (.Name x pos) (gName i) := by
  intro pins s σ H v u Q I r h
  exact wpAny_assign_Name (store_ok I hN hi hx r (fun s' I' => ⟨_, H, I', h⟩) hf)
def gNil : TGs := fun vs σ H Q => vs = [] ∧ Q σ H
def gCons (t : TG) (u : TGs) : TGs := fun vs σ H Q => ∃ v r, vs = v :: r ∧ t v σ H fun σ' H' => u r σ' H' Q
theorem pgs_nil : PGs X [] gNil := by
  intro pins s σ H vs us Q I r h
  obtain ⟨e, h⟩ := h
  subst e
  cases r
  exact assignInOrder_nil ⟨σ, H, I, h⟩
theorem pgs_cons {e : Expr} {es : List Expr} {t : TG} {u : TGs} (h1 : PG X e t) (h2 : PGs X es u)
    (hs : (assignEach (e :: es) X.env).map (·.2) = assign e X.env :: (assignEach es X.env).map (·.2) := by rfl) : PGs X (e :: es) (gCons t u) := by
  intro pins s σ H vs us Q I r h
  obtain ⟨v, vr, e1, h⟩ := h
  subst e1
  cases r with
  | cons r rr =>
    rw [hs]
    refine assignInOrder_cons (thn (h1 pins s σ H _ _ _ I r h) fun _ s1 ⟨σ1, H1, I1, q1⟩ => ?_)
    exact h2 pins s1 σ1 H1 _ _ Q I1 rr q1
def gTup (K : PySem.W.Frag) (n : Nat) (t : TGs) : TG := fun v σ H Q => ∃ a xs, v = .ref a ∧ SqT K H a xs ∧ xs.length = n ∧ t xs σ H Q
theorem pg_tup {es : List Expr} {k : Nat} {t : TGs} {n : Nat} (hc : X.calm = true) (h : PGs X es t)
    (hn : (assignEach es X.env).length = n := by rfl) (hst : (assignEach es X.env).findIdx? (·.1) = none := by rfl) : PG X (.Tuple es k pos) (gTup X.K n t) := by
  intro pins s σ H v u Q I r hw
  obtain ⟨a, xs, e1, hq, hl, hw⟩ := hw
  subst e1
  cases r
  obtain ⟨its, rv, ht, hz⟩ := I.tuple hq
  refine assign_Tuple_tuple (I.ok.hd hc) ht (by simp [hn, ← hl, rv.length]) hst fun h' hx => ?_
  have I1 : Inv X pins σ H { s with heap := h' } := I.kept (t' := s.toks) fun b o e => hx b o (Nat.ne_of_lt (Heap.lt_size e)) e
  exact h pins _ σ H xs _ Q I1 (by simpa using rv) hw
def gSub (to ti : TE) (t : TSet) : TG := fun v σ H Q => to σ H fun o H1 => ti σ H1 fun i H2 => t o i v H2 fun H3 => Q σ H3
theorem pg_sub {o i : Expr} {to ti : TE} {t : TSet} (ho : PE X o to) (hi : PE X i ti) (hs : PSet X t)
    (ha : ∀ v, assign (.Subscript o i pos) X.env v = (do
      let ov ← holding [v] (eval o X.env)
      let iv ← holding [v, ov] (eval i X.env)
      standAt pos
      holding [v, ov, iv] (setItem ov iv v)
      release [v, ov, iv] []) := by intro _; rfl) : PG X (.Subscript o i pos) (gSub to ti t) := by
  intro pins s σ H v u Q I r h
  rw [ha]
  refine wpAny_bind (wpAny_holding (thn (ho pins s σ H _ I h) fun ov s1 ⟨x, H1, I1, r1, q1⟩ => ?_))
  refine wpAny_bind (wpAny_holding (thn (hi pins s1 σ H1 _ I1 q1) fun iv s2 ⟨y, H2, I2, r2, q2⟩ => ?_))
  refine wpAny_bind (wpAny_standAt (wpAny_bind (wpAny_holding (thn (hs pins s2 σ H2 x y v ov iv u _ I2 r1 r2 r q2) fun _ s3 ⟨H3, I3, q3⟩ => ?_))))
  exact wpAny_release ⟨σ, H3, I3, q3⟩
def tAsg (te : TE) (g : TG) : TS := fun D σ H => te σ H fun x H1 => g x σ H1 D.nx
theorem ps_asg {tg e : Expr} {te : TE} {g : TG} (he : PE X e te) (hg : PG X tg g) (hs : swapsWithSole [tg] e pos.line X.env = pure false := by rfl) (hw : swappedStores [tg] e X.env = pure none := by rfl)
    (h1 : (assignEach [tg] X.env).map (·.2) = [assign tg X.env] := by rfl) : PS X (.Assign [tg] e pos) (tAsg te g) := by
  intro pins s σ H D I h
  refine wpAny_Assign_stores (thn (he pins s σ H _ I h) fun v s1 ⟨x, H1, I1, r1, q1⟩ => ?_) hs hw
  rw [h1]
  exact thn (hg pins s1 σ H1 x v _ I1 r1 q1) fun _ s2 q => q
theorem ps_set {i : Nat} {x : Str} {e : Expr} {te : TE} {pos' : Pos} (hN : X.N.Nodup) (hi : X.N[i]? = some x) (hx : Loc X.env.scope x) (he : PE X e te) (hs : swapsWith e (some (.Name x pos')) pos.line X.env = pure false := by rfl) (hf : X.fn x = true ∨ X.env.scope.names.lookup x = some .local := by first | exact .inl rfl | exact .inr rfl | assumption) :
    PS X (.Assign [.Name x pos'] e pos) (tAsg te (gName i)) := by
  intro pins s σ H D I h
  refine wpAny_Assign_Name (thn (he pins s σ H _ I h) fun v s1 ⟨y, H1, I1, r1, q1⟩ => ?_) hs
  exact store_ok I1 hN hi hx r1 (fun s2 I2 => ⟨_, H1, I2, q1⟩) hf
def tPar (i j : Nat) (ta : TA) : TS := fun D σ H => ta σ H fun vs H1 => ∃ v w, vs = [v, w] ∧ D.nx ((σ.set i (some v)).set j (some w)) H1
def tAug (i : Nat) (te : TE) (ti : TIp) : TS := fun D σ H => ∃ x, σ[i]? = some (some x) ∧ te σ H fun y H1 => ti x y H1 fun z H2 => D.nx (σ.set i (some z)) H2
def tAugS (to ti te : TE) (tget : V → V → Hp → VK → Prop) (tip : TIp) (tset : TSet) : TS := fun D σ H => to σ H fun o H1 => ti σ H1 fun i H2 => tget o i H2 fun x H3 => te σ H3 fun y H4 => tip x y H4 fun z H5 => tset o i z H5 fun H6 => D.nx σ H6
def PGet (X : Cx) (t : V → V → Hp → VK → Prop) : Prop :=
  ∀ (pins : List (Addr × Obj)) (s : Shared) (σ : St) (H : Hp) (o i : V) (ov iv : Value) (Q : VK), Inv X pins σ H s → RelV o ov → RelV i iv → t o i H Q →
    wpAny (model X.prog X.w) X.A (getItem ov iv) (EP X pins σ Q) X.xe s
def ipI (f : Int → Int → Int) : TIp := fun x y H Q => ∃ i j, x = .int i ∧ y = .int j ∧ Q (.int (f i j)) H
end
section
variable {X : Cx} {pos : Pos}
def tWhile (c : TT) (tb : TS) : TS := fun D σ H => ∃ W : Nat → St → Hp → Prop, (∃ m, W m σ H) ∧ ∀ m σ H, W m σ H →
  c σ H fun b H1 => if b = true then ∃ N : St → Hp → Prop, (∀ σ' H', N σ' H' → ∃ m', m' < m ∧ W m' σ' H') ∧ tb { D with nx := N, ct := N, bk := D.nx } σ H1 else D.nx σ H1
end
structure It where
  go : Nat → Hp → Prop
  yld : Nat → Hp → V → Hp → Prop
  stop : Nat → Hp → Prop
def FpOk (X : Cx) (pins : List (Addr × Obj)) (H : Hp) (b : Addr) : Prop :=
  H b = none ∧ b ≠ X.env.locals ∧ b ∉ X.fs ∧ (b ∈ X.ex ∨ X.s_0.heap.objs.size ≤ b) ∧ (∀ x c, X.env.cells.lookup x = some c → c ≠ b) ∧ ∀ p ∈ X.pn ++ pins, p.1 ≠ b
theorem Inv.fpOk {X : Cx} {pins : List (Addr × Obj)} {σ : St} {H H' : Hp} {s : Shared} {b : Addr} (I : Inv X pins σ H s) (hb : s.heap.objs.size ≤ b) (hn : H' b = none) : FpOk X pins H' b := by
  refine ⟨hn, Nat.ne_of_gt (Nat.lt_of_lt_of_le I.lt hb), I.nofs hb, .inr (Nat.le_trans I.sz hb), fun x c e z => ?_, fun p hp z => ?_⟩
  · obtain ⟨v, q⟩ := I.cell x c e
    exact absurd (Nat.lt_of_lt_of_le q.lt (by rw [z]; exact hb)) (Nat.lt_irrefl _)
  · exact absurd (Nat.lt_of_lt_of_le (Heap.lt_size (I.pin p hp).1) (by rw [z]; exact hb)) (Nat.lt_irrefl _)
structure Turn (P : Program) (w : World) (K : PySem.W.Frag) (tg : Expr) (J : It) (fp : List Addr) (it : Addr) (tn : Nat → Heap → Prop) : Prop where
  mem : it ∈ fp
  obj : ∀ i h, tn i h → ∀ b ∈ fp, ∃ o, h.get? b = some o ∧ ∀ v, o.data ≠ .cell v
  keep : ∀ i h h', tn i h → (∀ b ∈ fp, ∀ o, h.get? b = some o → h'.get? b = some o) → tn i h'
  item : ∀ (X : Cx), X.prog = P → X.w = w → X.K = K → X.calm = true → ∀ (i : Nat) (pins : List (Addr × Obj)) (s : Shared) (σ : St) (H : Hp) (E : Value → Shared → Prop), Inv X pins σ H s → (∀ b ∈ fp, FpOk X pins H b) → tn i s.heap → J.go i H →
    wpAny (model P w) X.A (pyNext (.ref it)) (fun r s1 => ∃ u, r = some u ∧
      wpAny (model P w) X.A (letOwnedTupleGo tg (.ref it) u) (fun _ s2 => ∃ x H', Inv X pins σ H' s2 ∧ RelV x u ∧ J.yld i H x H' ∧ tn (i + 1) s2.heap ∧ ∀ b ∈ fp, H' b = none) E s1) E s
  done : ∀ (X : Cx), X.prog = P → X.w = w → X.K = K → X.calm = true → ∀ (i : Nat) (pins : List (Addr × Obj)) (s : Shared) (σ : St) (H : Hp) (E : Value → Shared → Prop), Inv X pins σ H s → (∀ b ∈ fp, FpOk X pins H b) → tn i s.heap → J.stop i H →
    wpAny (model P w) X.A (pyNext (.ref it)) (fun r s1 => r = none ∧ Inv X pins σ H s1) E s
  self : ∀ (A : Around) (i : Nat) (s : Shared) (Q : Value → Shared → Prop) (E : Value → Shared → Prop), tn i s.heap → Q (.ref it) s → wpAny (model P w) A (pyIter (.ref it)) Q E s
abbrev TI := St → Hp → (It → Hp → Prop) → Prop
def PIE (X : Cx) (pins : List (Addr × Obj)) (σ : St) (tg : Expr) (R : It → Hp → Prop) (itv : Value) (s2 : Shared) : Prop :=
  ∃ (it : Addr) (fp : List Addr) (tn : Nat → Heap → Prop) (J : It) (H' : Hp), itv = .ref it ∧ Inv X pins σ H' s2 ∧ Turn X.prog X.w X.K tg J fp it tn ∧ tn 0 s2.heap ∧ (∀ b ∈ fp, FpOk X pins H' b) ∧ R J H'
def PI (X : Cx) (tg iter : Expr) (wi : TI) : Prop :=
  ∀ (pins : List (Addr × Obj)) (s : Shared) (σ : St) (H : Hp) (R : It → Hp → Prop), Inv X pins σ H s → wi σ H R →
    wpAny (model X.prog X.w) X.A (eval iter X.env) (fun v s1 => wpAny (model X.prog X.w) X.A (pyIter v) (PIE X pins σ tg R) X.xe s1) X.xe s
theorem go_of {M : Model} {A : Around} {E : Value → Shared → Prop} {s : Shared} {tg : Expr} {it : Addr} {u : Value} {o : Obj} {n : String} {vs : Array Value} {Q : Unit → Shared → Prop} (ho : s.heap.get? it = some o) (hc : o.cls = .type n) (hd : o.data = .fields vs)
    (hn : ["enumerate", "zip", "dict_itemiterator", "dict_reverseitemiterator", "odict_iterator", "itertools.zip_longest", "itertools.pairwise"].contains n = false) (hQ : Q () s) : wpAny M A (letOwnedTupleGo tg (.ref it) u) Q E s := by
  unfold letOwnedTupleGo
  cases tg <;> first
    | exact wpAny_pure hQ
    | (cases u <;> first
        | exact wpAny_pure hQ
        | (refine wpAny_bind (wpAny_load ho ?_)
           rw [hc, hd]
           show wpAny M A (if (["enumerate", "zip", "dict_itemiterator", "dict_reverseitemiterator", "odict_iterator", "itertools.zip_longest", "itertools.pairwise"].contains n && vs[0]? == some (rawInt _)) = true then _ else _) Q E s
           rw [if_neg (by intro h; rw [hn, Bool.false_and] at h; cases h)]
           exact wpAny_pure hQ))
def Itl (K : PySem.W.Frag) (a : Addr) : It :=
  ⟨fun i H => ∃ xs x, SqL K H a xs ∧ xs[i]? = some x, fun i H x H' => H' = H ∧ ∀ xs, SqL K H a xs → xs[i]? = some x, fun i H => ∃ xs, SqL K H a xs ∧ xs.length ≤ i⟩
def Itt (K : PySem.W.Frag) (a : Addr) : It :=
  ⟨fun i H => ∃ xs x, SqT K H a xs ∧ xs[i]? = some x, fun i H x H' => H' = H ∧ ∀ xs, SqT K H a xs → xs[i]? = some x, fun i H => ∃ xs, SqT K H a xs ∧ xs.length ≤ i⟩
def Itr (lo : Int) (n : Nat) : It := ⟨fun i _ => i < n, fun i H x H' => H' = H ∧ x = .int (lo + i), fun i _ => n ≤ i⟩
theorem turn_list {P : Program} {w : World} {K : PySem.W.Frag} {tg : Expr} (a it : Addr) : Turn P w K tg (Itl K a) [it] it (fun i h => h.IsListIter it a i) where
  mem := by simp
  obj := fun i h st b hb => by
    have e : b = it := by simpa using hb
    subst e
    obtain ⟨o, e, c, d⟩ := st
    exact ⟨o, e, fun v z => by rw [d] at z; cases z⟩
  keep := fun i h h' st k => st.at fun o e => k it (by simp) o e
  item := by
    intro X hP hw hK hc i pins s σ H E I hf st hg
    subst hP hw hK
    obtain ⟨xs, x, hq, hx⟩ := hg
    obtain ⟨its, rv, p, hz⟩ := I.list hq
    obtain ⟨u, hu, ru⟩ := rv.get hx
    obtain ⟨f0, f1, f2, f3, f4, f5⟩ := hf it (by simp)
    refine wpAny_pyNext_list_item st p.isList (x := u) (by simpa using hu) fun h' st' sb => ?_
    have I1 : Inv X pins σ H { s with heap := h' } := I.turned (t' := s.toks) (fun b o hb e => (sb.2 b hb).trans e) f0 f1 f3 f4 f5
    obtain ⟨o, e, c, d⟩ := id st'
    exact ⟨u, rfl, go_of (s := { s with heap := h' }) e c d (by decide) ⟨x, H, I1, ru, ⟨rfl, fun ys hy => by rw [I.list_inj hy hq]; exact hx⟩, st', fun b hb => (hf b hb).1⟩⟩
  done := by
    intro X hP hw hK hc i pins s σ H E I hf st hg
    subst hP hw hK
    obtain ⟨xs, hq, hx⟩ := hg
    obtain ⟨its, rv, p, hz⟩ := I.list hq
    obtain ⟨f0, f1, f2, f3, f4, f5⟩ := hf it (by simp)
    have hl := rv.length
    exact wpAny_pyNext_list_end (I.ok.hd hc) st p.isList (by simp; omega) fun h' eb => ⟨rfl, I.turned (t' := s.toks) (fun b o hb e => eb b o hb e) f0 f1 f3 f4 f5⟩
  self := fun _ _ _ _ _ st h => wpAny_pyIter_listiter st h
theorem turn_tuple {P : Program} {w : World} {K : PySem.W.Frag} {tg : Expr} (a it : Addr) : Turn P w K tg (Itt K a) [it] it (fun i h => h.IsTupleIter it a i) where
  mem := by simp
  obj := fun i h st b hb => by
    have e : b = it := by simpa using hb
    subst e
    obtain ⟨o, e, c, d⟩ := st
    exact ⟨o, e, fun v z => by rw [d] at z; cases z⟩
  keep := fun i h h' st k => st.at fun o e => k it (by simp) o e
  item := by
    intro X hP hw hK hc i pins s σ H E I hf st hg
    subst hP hw hK
    obtain ⟨xs, x, hq, hx⟩ := hg
    obtain ⟨its, rv, p, hz⟩ := I.tuple hq
    obtain ⟨u, hu, ru⟩ := rv.get hx
    obtain ⟨f0, f1, f2, f3, f4, f5⟩ := hf it (by simp)
    refine wpAny_pyNext_tuple_item st (show s.heap.IsTuple a its.toArray from p) (x := u) (by simpa using hu) fun h' st' sb => ?_
    have I1 : Inv X pins σ H { s with heap := h' } := I.turned (t' := s.toks) (fun b o hb e => (sb.2 b hb).trans e) f0 f1 f3 f4 f5
    obtain ⟨o, e, c, d⟩ := id st'
    exact ⟨u, rfl, go_of (s := { s with heap := h' }) e c d (by decide) ⟨x, H, I1, ru, ⟨rfl, fun ys hy => by rw [I.tuple_inj hy hq]; exact hx⟩, st', fun b hb => (hf b hb).1⟩⟩
  done := by
    intro X hP hw hK hc i pins s σ H E I hf st hg
    subst hP hw hK
    obtain ⟨xs, hq, hx⟩ := hg
    obtain ⟨its, rv, p, hz⟩ := I.tuple hq
    obtain ⟨f0, f1, f2, f3, f4, f5⟩ := hf it (by simp)
    have hl := rv.length
    exact wpAny_pyNext_tuple_end (I.ok.hd hc) st (show s.heap.IsTuple a its.toArray from p) (by simp; omega) fun h' eb => ⟨rfl, I.turned (t' := s.toks) (fun b o hb e => eb b o hb e) f0 f1 f3 f4 f5⟩
  self := fun _ _ _ _ _ st h => wpAny_pyIter_tupleiter st h
theorem turn_range {P : Program} {w : World} {K : PySem.W.Frag} {tg : Expr} (it : Addr) (lo : Int) (n : Nat) : Turn P w K tg (Itr lo n) [it] it (fun i h => IsRangeIter h it (lo + (i : Nat) * 1) ((n : Int) - (i : Nat)) 1) where
  mem := by simp
  obj := fun i h st b hb => by
    have e : b = it := by simpa using hb
    subst e
    exact ⟨_, st, fun v z => by
      have z' : Data.fields _ = Data.cell v := z
      cases z'⟩
  keep := fun i h h' st k => k it (by simp) _ st
  item := by
    intro X hP hw hK hc i pins s σ H E I hf st hg
    subst hP hw hK
    obtain ⟨f0, f1, f2, f3, f4, f5⟩ := hf it (by simp)
    have W := Walks.range (prog := X.prog) (w := X.w) (I.ok.hd hc) it lo 1 n
    refine W.item i s _ _ hg st fun v h' tk hv st' kk => ?_
    obtain ⟨t, rfl⟩ := hv
    have I1 : Inv X pins σ H { s with heap := h', toks := tk } := I.turned (fun b o hb e => kk b o (by simpa using hb) e) f0 f1 f3 f4 f5
    refine ⟨_, rfl, go_of (s := { s with heap := h', toks := tk }) (n := "range_iterator") st' rfl rfl (by decide) ⟨.int (lo + i), H, I1, ⟨t, ?_⟩, ⟨rfl, rfl⟩, st', fun b hb => (hf b hb).1⟩⟩
    rw [Int.mul_one]
  done := by
    intro X hP hw hK hc i pins s σ H E I hf st hg
    subst hP hw hK
    obtain ⟨f0, f1, f2, f3, f4, f5⟩ := hf it (by simp)
    exact wpAny_pyNext_range_end (I.ok.hd hc) st (by have : n ≤ i := hg; omega) fun h' eb => ⟨rfl, I.turned (t' := s.toks) (fun b o hb e => eb b o hb e) f0 f1 f3 f4 f5⟩
  self := fun _ _ _ _ _ st h => wpAny_pyIter_rangeiter st h
end L2
namespace L2
open PySem PySem.Spec PyProof.Rows
section
variable {X : Cx} {tg : Expr}
def iList (K : PySem.W.Frag) (tl : TE) : TI := fun σ H R => tl σ H fun x H1 => ∃ a, x = .ref a ∧ (∃ xs, SqL K H1 a xs) ∧ R (Itl K a) H1
def iTup (K : PySem.W.Frag) (tl : TE) : TI := fun σ H R => tl σ H fun x H1 => ∃ a, x = .ref a ∧ (∃ xs, SqT K H1 a xs) ∧ R (Itt K a) H1
theorem pi_list {l : Expr} {tl : TE} (hl : PE X l tl) : PI X tg l (iList X.K tl) := by
  intro pins s σ H R I h
  refine thn (hl pins s σ H _ I h) fun v s1 ⟨x, H1, I1, r1, q1⟩ => ?_
  obtain ⟨a, e, ⟨xs, hq⟩, q⟩ := q1
  subst e
  cases r1
  obtain ⟨its, rv, p, hz⟩ := I1.list hq
  refine wpAny_pyIter_list p.isList ?_
  refine ⟨s1.heap.objs.size, [s1.heap.objs.size], _, _, H1, rfl, I1.kept (t' := s1.toks) fun b o e => Heap.get?_push_of_some _ e, turn_list a _, ⟨_, Heap.get?_push_size _ rfl, rfl, rfl⟩, fun b hb => ?_, q⟩
  have e : b = s1.heap.objs.size := by simpa using hb
  subst e
  exact I1.fpOk (Nat.le_refl _) (I1.hok.fresh (Nat.le_refl _))
theorem pi_tup {l : Expr} {tl : TE} (hl : PE X l tl) : PI X tg l (iTup X.K tl) := by
  intro pins s σ H R I h
  refine thn (hl pins s σ H _ I h) fun v s1 ⟨x, H1, I1, r1, q1⟩ => ?_
  obtain ⟨a, e, ⟨xs, hq⟩, q⟩ := q1
  subst e
  cases r1
  obtain ⟨its, rv, p, hz⟩ := I1.tuple hq
  refine wpAny_pyIter_tuple (show s1.heap.IsTuple a its.toArray from p) ?_
  refine ⟨s1.heap.objs.size, [s1.heap.objs.size], _, _, H1, rfl, I1.kept (t' := s1.toks) fun b o e => Heap.get?_push_of_some _ e, turn_tuple a _, ⟨_, Heap.get?_push_size _ rfl, rfl, rfl⟩, fun b hb => ?_, q⟩
  have e : b = s1.heap.objs.size := by simpa using hb
  subst e
  exact I1.fpOk (Nat.le_refl _) (I1.hok.fresh (Nat.le_refl _))
theorem range_it {pins : List (Addr × Obj)} {σ : St} {H : Hp} {s : Shared} {R : It → Hp → Prop} {E : Value → Shared → Prop} {lo hi : Int} {t u v : Tok} {tk : Nat} (I : Inv X pins σ H s) (h1 : -(2 ^ 62) ≤ lo) (h2 : lo < 2 ^ 62) (h3 : -(2 ^ 62) ≤ hi) (h4 : hi < 2 ^ 62)
    (q : R (Itr lo (hi - lo).toNat) H) : wpAny (model X.prog X.w) X.A (pyIter (.ref s.heap.objs.size)) (PIE X pins σ tg R) E { s with heap := s.heap.push { cls := .type "range", data := .fields #[.int lo t, .int hi u, .int 1 v] }, toks := tk } := by
  refine wpAny_pyIter_range (IsRange.new ..) (small_one h1 h2 h3 h4) ?_
  have I1 : Inv X pins σ H { s with heap := s.heap.push { cls := .type "range", data := .fields #[.int lo t, .int hi u, .int 1 v] }, toks := tk } := I.kept fun b o e => Heap.get?_push_of_some _ e
  refine ⟨(s.heap.push { cls := .type "range", data := .fields #[.int lo t, .int hi u, .int 1 v] }).objs.size, [(s.heap.push { cls := .type "range", data := .fields #[.int lo t, .int hi u, .int 1 v] }).objs.size], _, _, H, rfl,
    I1.kept (t' := tk) fun b o e => Heap.get?_push_of_some _ e, turn_range _ lo (hi - lo).toNat, ?_, fun b hb => ?_, q⟩
  · have e1 : lo + ((0 : Nat) : Int) * 1 = lo := by simp
    have e2 : (((hi - lo).toNat : Nat) : Int) - ((0 : Nat) : Int) = Builtin.Range.rangeSize lo hi 1 := by rw [rangeSize_one]; split <;> omega
    show IsRangeIter _ _ (lo + ((0 : Nat) : Int) * 1) ((((hi - lo).toNat : Nat) : Int) - ((0 : Nat) : Int)) 1
    rw [e1, e2]
    exact Heap.get?_push_size _ rfl
  · have e : b = (s.heap.push { cls := .type "range", data := .fields #[.int lo t, .int hi u, .int 1 v] }).objs.size := by simpa using hb
    subst e
    exact I1.fpOk (Nat.le_refl _) (I1.hok.fresh (Nat.le_refl _))
def iRng1 (ta : TA) : TI := fun σ H R => ta σ H fun vs H1 => ∃ j : Int, vs = [.int j] ∧ -(2 ^ 62) ≤ j ∧ j < 2 ^ 62 ∧ R (Itr 0 j.toNat) H1
def iRng2 (ta : TA) : TI := fun σ H R => ta σ H fun vs H1 => ∃ i j : Int, vs = [.int i, .int j] ∧ (-(2 ^ 62) ≤ i ∧ i < 2 ^ 62 ∧ -(2 ^ 62) ≤ j ∧ j < 2 ^ 62) ∧ R (Itr i (j - i).toNat) H1
theorem pi_range1 {a : Expr} {ta : TA} {p pos : Pos} (hg : Gl X "range") (hm : X.mg "range" = none) (ha : PA X [a] ta) (hs : starEach [a] X.env = [(false, eval a X.env)] := by rfl) : PI X tg (.Call (.Name "range" p) [a] [] pos) (iRng1 ta) := by
  intro pins s σ H R I h
  refine Call_ (ld_blt I hg hm boot_range (PyProof.Rows.callWith_type1 (thn (ha pos pins s σ H _ I h) fun us s1 ⟨vs, H1, I1, r1, q1⟩ => ?_) hs rfl))
  obtain ⟨j, e, q1, q2, q⟩ := q1
  subst e
  cases r1 with
  | cons r rr =>
    cases rr
    obtain ⟨t, rfl⟩ := r
    exact call_range_1 (range_it I1 (by omega) (by omega) q1 q2 (by simpa using q))
theorem pi_range2 {a b : Expr} {ta : TA} {p pos : Pos} (hg : Gl X "range") (hm : X.mg "range" = none) (ha : PA X [a, b] ta) (hs : starEach [a, b] X.env = [(false, eval a X.env), (false, eval b X.env)] := by rfl) (hs2 : starEach [b] X.env = [(false, eval b X.env)] := by rfl) :
    PI X tg (.Call (.Name "range" p) [a, b] [] pos) (iRng2 ta) := by
  intro pins s σ H R I h
  refine Call_ (ld_blt I hg hm boot_range (PyProof.Rows.callWith_type1 (thn (ha pos pins s σ H _ I h) fun us s1 ⟨vs, H1, I1, r1, q1⟩ => ?_) (by rw [hs, hs2]) (by rw [hs2]; rfl)))
  obtain ⟨i, j, e, ⟨q1, q2, q3, q4⟩, q⟩ := q1
  subst e
  cases r1 with
  | cons r rr =>
    cases rr with
    | cons r' rr =>
      cases rr
      obtain ⟨t, rfl⟩ := r
      obtain ⟨t', rfl⟩ := r'
      exact call_range_2 (range_it I1 q1 q2 q3 q4 q)
def tFor (wi : TI) (g : TG) (tb : TS) : TS := fun D σ H => wi σ H fun J H1 => ∃ W : Nat → Nat → St → Hp → Prop, (∃ m, W 0 m σ H1) ∧ ∀ i m σ H, W i m σ H →
  (J.stop i H ∧ D.nx σ H) ∨ (J.go i H ∧ ∃ N : St → Hp → Prop, (∀ σ' H', N σ' H' → ∃ m', m' < m ∧ W (i + 1) m' σ' H') ∧ ∀ x H', J.yld i H x H' → g x σ H' fun σ2 H2 => tb { D with nx := N, ct := N, bk := D.nx } σ2 H2)
def pinsAt (fp : List Addr) (h : Heap) : List (Addr × Obj) := fp.filterMap fun b => (h.get? b).map fun o => (b, o)
theorem mem_pinsAt {fp : List Addr} {h : Heap} {b : Addr} {o : Obj} (hb : b ∈ fp) (e : h.get? b = some o) : (b, o) ∈ pinsAt fp h := List.mem_filterMap.mpr ⟨b, hb, by rw [e]; rfl⟩
theorem of_pinsAt {fp : List Addr} {h : Heap} {p : Addr × Obj} (hp : p ∈ pinsAt fp h) : p.1 ∈ fp ∧ h.get? p.1 = some p.2 := by
  obtain ⟨b, hb, e⟩ := List.mem_filterMap.mp hp
  cases q : h.get? b with
  | none => rw [q] at e; cases e
  | some o =>
    rw [q] at e
    have e' : (b, o) = p := Option.some.inj e
    subst e'
    exact ⟨hb, q⟩
theorem Inv.pinned {pins : List (Addr × Obj)} {σ : St} {H : Hp} {s : Shared} {fp : List Addr} (I : Inv X pins σ H s) (hf : ∀ b ∈ fp, FpOk X pins H b) (ho : ∀ b ∈ fp, ∃ o, s.heap.get? b = some o ∧ ∀ v, o.data ≠ .cell v) : Inv X (pins ++ pinsAt fp s.heap) σ H s :=
  I.pins_of fun p hp => (List.mem_append.mp hp).elim (fun z => I.pin p (List.mem_append_right _ z)) fun z => by
    obtain ⟨hb, e⟩ := of_pinsAt z
    obtain ⟨f0, f1, f2, _⟩ := hf p.1 hb
    obtain ⟨o, e', d⟩ := ho p.1 hb
    rw [e] at e'; cases e'
    exact ⟨e, f0, f1, f2, d⟩
theorem Inv.unpinned {pins pl : List (Addr × Obj)} {σ : St} {H : Hp} {s : Shared} (I : Inv X (pins ++ pl) σ H s) : Inv X pins σ H s := I.pins_of fun p hp => I.pin p (List.mem_append_right _ (List.mem_append_left _ hp))
theorem ps_for {iter : Expr} {body : List Stmt} {wi : TI} {g : TG} {tb : TS} {pos : Pos} (hp : PassesOwn (model X.prog X.w) X.A X.env X.xe) (hc : X.calm = true) (hi : PI X tg iter wi) (hg : PG X tg g) (hb : PSs X body tb)
    (hs : ∀ x, foldedSetIterable iter X.env x = pure x := by intro _; rfl) : PS X (.For tg iter body [] pos) (tFor wi g tb) := by
  intro pins s σ H D I h
  refine wpAny_For (thn (hi pins s σ H _ I h) fun v s1 h1 => thn h1 fun itv s2 h2 => ?_) hs
  obtain ⟨it, fp, tn, J, H2, e, I2, T, st2, f2, W, ⟨m0, w0⟩, turn⟩ := h2
  subst e
  -- what stays true of the iterator's objects through the loop
  have stat : ∀ {H' : Hp}, (∀ b ∈ fp, H' b = none) → ∀ b ∈ fp, FpOk X pins H' b := fun hn b hb => ⟨hn b hb, (f2 b hb).2⟩
  refine codeAny_forLoop_any (fun n s' => ∃ i σ' H', Inv X pins σ' H' s' ∧ tn i s'.heap ∧ (∀ b ∈ fp, H' b = none) ∧ W i n σ' H') ?_ m0 ⟨0, σ, H2, I2, st2, fun b hb => (f2 b hb).1, w0⟩
  rintro n s3 ⟨i, σ3, H3, I3, st3, fr3, w3⟩
  rcases turn i n σ3 H3 w3 with ⟨stop, qn⟩ | ⟨go, N, hN, step⟩
  · refine wpAny_passesOwn hp (thn (T.done X rfl rfl rfl hc i pins s3 σ3 H3 X.xe I3 (stat fr3) st3 stop) fun r s4 ⟨hr, I4⟩ => ?_)
    subst hr
    exact wpAny_execs_nil ⟨σ3, H3, I4, qn⟩
  · refine wpAny_passesOwn hp (thn (T.item X rfl rfl rfl hc i pins s3 σ3 H3 X.xe I3 (stat fr3) st3 go) fun r s4 ⟨u, hr, h4⟩ => ?_)
    subst hr
    refine wpAny_passesOwn hp (thn h4 fun _ s5 ⟨x, H5, I5, r5, y5, st5, fr5⟩ => ?_)
    have I5' := I5.pinned (stat fr5) (T.obj _ _ st5)
    refine wpAny_passesOwn hp (thn (hg _ s5 σ3 H5 x u _ I5' r5 (step x H5 y5)) fun _ s6 ⟨σ6, H6, I6, q6⟩ => ?_)
    refine wpAny_passesOwn hp (thn (hb _ s6 σ6 H6 _ I6 q6) fun f s7 q7 => ?_)
    have again : ∀ {σ7 : St} {H7 : Hp}, Inv X (pins ++ pinsAt fp s5.heap) σ7 H7 s7 → N σ7 H7 → ∃ m, m < n ∧ ∃ i σ' H', Inv X pins σ' H' s7 ∧ tn i s7.heap ∧ (∀ b ∈ fp, H' b = none) ∧ W i m σ' H' := fun {σ7 H7} I7 n7 => by
      obtain ⟨m', hm, w7⟩ := hN σ7 H7 n7
      refine ⟨m', hm, i + 1, σ7, H7, I7.unpinned, T.keep _ _ _ st5 fun b hb o e => (I7.pin (b, o) (List.mem_append_right _ (List.mem_append_right _ (mem_pinsAt hb e)))).1, fun b hb => ?_, w7⟩
      obtain ⟨o, e, d⟩ := T.obj _ _ st5 b hb
      exact (I7.pin (b, o) (List.mem_append_right _ (List.mem_append_right _ (mem_pinsAt hb e)))).2.1
    cases f with
    | next => obtain ⟨σ7, H7, I7, n7⟩ := q7; exact again I7 n7
    | cont => obtain ⟨σ7, H7, I7, n7⟩ := q7; exact again I7 n7
    | brk => obtain ⟨σ7, H7, I7, q7⟩ := q7; exact ⟨σ7, H7, I7.unpinned, q7⟩
    | ret v => obtain ⟨x7, σ7, H7, I7, r7, q7⟩ := q7; exact ⟨x7, σ7, H7, I7.unpinned, r7, q7⟩
end
end L2
namespace L2
open PySem PySem.Spec PyProof.Rows
abbrev R2 := V → V → Hp → VK → Prop
def OpR (X : Cx) (f : Value → Value → Sem Value) (r : R2) : Prop :=
  ∀ (pins : List (Addr × Obj)) (s : Shared) (σ : St) (H : Hp) (x y : V) (v u : Value) (Q : VK), Inv X pins σ H s → RelV x v → RelV y u → r x y H Q →
    wpAny (model X.prog X.w) X.A (f v u) (EP X pins σ Q) X.xe s
def UnR (X : Cx) (f : Value → Sem Value) (r : V → Hp → VK → Prop) : Prop :=
  ∀ (pins : List (Addr × Obj)) (s : Shared) (σ : St) (H : Hp) (x : V) (v : Value) (Q : VK), Inv X pins σ H s → RelV x v → r x H Q →
    wpAny (model X.prog X.w) X.A (f v) (EP X pins σ Q) X.xe s
def CallR (X : Cx) (f : Value) (r : List V → Hp → VK → Prop) : Prop :=
  ∀ (pins : List (Addr × Obj)) (s : Shared) (σ : St) (H : Hp) (xs : List V) (us : List Value) (Q : VK), Inv X pins σ H s → Vals xs us → r xs H Q →
    wpAny (model X.prog X.w) X.A (call f us) (EP X pins σ Q) X.xe s
def TruR (X : Cx) (r : V → Hp → (Bool → Hp → Prop) → Prop) : Prop :=
  ∀ (pins : List (Addr × Obj)) (s : Shared) (σ : St) (H : Hp) (x : V) (v : Value) (Q : Bool → Hp → Prop), Inv X pins σ H s → RelV x v → r x H Q →
    wpAny (model X.prog X.w) X.A (truthy v) (TP X pins σ Q) X.xe s
def tOp (r : R2) (ta tb : TE) : TE := fun σ H Q => ta σ H fun x H1 => tb σ H1 fun y H2 => r x y H2 Q
def tUn (r : V → Hp → VK → Prop) (ta : TE) : TE := fun σ H Q => ta σ H fun x H1 => r x H1 Q
def rI (C : Int → Int → Prop) (g : Int → Int → V) : R2 := fun x y H Q => ∃ i j, x = .int i ∧ y = .int j ∧ C i j ∧ Q (g i j) H
def rI0 (g : Int → Int → V) : R2 := fun x y H Q => ∃ i j, x = .int i ∧ y = .int j ∧ Q (g i j) H
def rU (g : Int → V) : V → Hp → VK → Prop := fun x H Q => ∃ i, x = .int i ∧ Q (g i) H
section
variable {X : Cx} {a b c : Expr} {ta tb tc : TE} {pos : Pos}
theorem binT (ha : PE X a ta) (hb : PE X b tb) {pins : List (Addr × Obj)} {s : Shared} {σ : St} {H : Hp} {R : V → V → Hp → Prop} (I : Inv X pins σ H s)
    (h : ta σ H fun x H1 => tb σ H1 fun y H2 => R x y H2) {Q : Value → Shared → Prop} {f : Value → Value → Sem Value}
    (hf : ∀ v u s2 x y H2, Inv X pins σ H2 s2 → RelV x v → RelV y u → R x y H2 → wpAny (model X.prog X.w) X.A (f v u) Q X.xe s2) :
    wpAny (model X.prog X.w) X.A (eval a X.env) (fun v s₁ => wpAny (model X.prog X.w) X.A (eval b X.env) (fun u s₂ => wpAny (model X.prog X.w) X.A (f v u) Q X.xe s₂) X.xe s₁) X.xe s := by
  refine thn (ha pins s σ H _ I h) fun v s1 ⟨x, H1, I1, r1, q1⟩ => ?_
  refine thn (hb pins s1 σ H1 _ I1 q1) fun u s2 ⟨y, H2, I2, r2, q2⟩ => ?_
  exact hf v u s2 x y H2 I2 r1 r2 q2
theorem pe_op {op : Operator} {r : R2} (ho : OpR X (binaryOp op) r) (ha : PE X a ta) (hb : PE X b tb) : PE X (.BinOp a op b pos) (tOp r ta tb) := by
  intro pins s σ H Q I h
  exact wpAny_BinOp (binT ha hb I h fun v u s2 x y H2 I2 rx ry q => ho pins s2 σ H2 x y v u Q I2 rx ry q)
theorem pe_un {op : UnaryOp} {r : V → Hp → VK → Prop} (ho : UnR X (unaryOp op) r) (ha : PE X a ta) : PE X (.UnaryOp op a pos) (tUn r ta) := by
  intro pins s σ H Q I h
  exact UnaryOp_ (thn (ha pins s σ H _ I h) fun v s1 ⟨x, H1, I1, r1, q1⟩ => ho pins s1 σ H1 x v Q I1 r1 q1)
theorem opI {f : Value → Value → Sem Value} {C : Int → Int → Prop} {g : Int → Int → Int}
    (rule : ∀ (i j : Int) (t u : Tok) (s : Shared) (Q : Value → Shared → Prop) (E : Value → Shared → Prop), C i j → Q (.int (g i j) s.toks) { s with toks := s.toks + 1 } → wpAny (model X.prog X.w) X.A (f (.int i t) (.int j u)) Q E s) :
    OpR X f (rI C fun i j => .int (g i j)) := by
  intro pins s σ H x y v u Q I rx ry h
  obtain ⟨i, j, rfl, rfl, hc, q⟩ := h
  obtain ⟨t, rfl⟩ := rx
  obtain ⟨t', rfl⟩ := ry
  exact rule i j t t' s _ _ hc ⟨.int (g i j), H, I.tok _, ⟨_, rfl⟩, q⟩
theorem opI0 {f : Value → Value → Sem Value} {g : Int → Int → Int}
    (rule : ∀ (i j : Int) (t u : Tok) (s : Shared) (Q : Value → Shared → Prop) (E : Value → Shared → Prop), Q (.int (g i j) s.toks) { s with toks := s.toks + 1 } → wpAny (model X.prog X.w) X.A (f (.int i t) (.int j u)) Q E s) :
    OpR X f (rI0 fun i j => .int (g i j)) := by
  intro pins s σ H x y v u Q I rx ry h
  obtain ⟨i, j, rfl, rfl, q⟩ := h
  obtain ⟨t, rfl⟩ := rx
  obtain ⟨t', rfl⟩ := ry
  exact rule i j t t' s _ _ ⟨.int (g i j), H, I.tok _, ⟨_, rfl⟩, q⟩
theorem opB0 {f : Value → Value → Sem Value} {g : Int → Int → Bool}
    (rule : ∀ (i j : Int) (t u : Tok) (s : Shared) (Q : Value → Shared → Prop) (E : Value → Shared → Prop), Q (.bool (g i j)) s → wpAny (model X.prog X.w) X.A (f (.int i t) (.int j u)) Q E s) :
    OpR X f (rI0 fun i j => .bl (g i j)) := by
  intro pins s σ H x y v u Q I rx ry h
  obtain ⟨i, j, rfl, rfl, q⟩ := h
  obtain ⟨t, rfl⟩ := rx
  obtain ⟨t', rfl⟩ := ry
  exact rule i j t t' s _ _ ⟨.bl (g i j), H, I, rfl, q⟩
def CDiv (i j : Int) : Prop := 0 < j ∧ j < 1073741824
def CDivN (i j : Int) : Prop := j ≠ 0 ∧ j.natAbs < 1073741824
def CPow (i j : Int) : Prop := 0 ≤ j ∧ j ≤ 1000000 ∧ i.natAbs < 2 ^ 64
def CMul (i j : Int) : Prop := (-(2 ^ 64) < i ∧ i < 2 ^ 64) ∨ (-(2 ^ 64) < j ∧ j < 2 ^ 64)
theorem CMul.ok {i j : Int} (h : CMul i j) : IntMulOk i j := by
  rcases h with ⟨h1, h2⟩ | ⟨h1, h2⟩
  · exact .of_left (intBits_le_64 h1 h2)
  · exact .of_right (intBits_le_64 h1 h2)
theorem op_add : OpR X (binaryOp .Add) (rI0 fun i j => .int (i + j)) := opI0 fun _ _ _ _ _ _ _ q => add_int q
theorem op_sub : OpR X (binaryOp .Sub) (rI0 fun i j => .int (i - j)) := opI0 fun _ _ _ _ _ _ _ q => sub_int q
theorem op_mul : OpR X (binaryOp .Mult) (rI CMul fun i j => .int (i * j)) := opI fun _ _ _ _ _ _ _ hc q => mul_int q hc.ok
theorem op_fdiv : OpR X (binaryOp .FloorDiv) (rI CDiv fun i j => .int (i / j)) := opI fun i j _ _ _ _ _ hc q => by
  have h1 : (0 : Int) < j := hc.1
  have h2 : j < 1073741824 := hc.2
  exact floordiv_int (by omega) (by rw [Int.fdiv_eq_ediv_of_nonneg i (by omega)]; exact q) (.inl (PyProof.noPylong_small (by omega)))
theorem op_mod : OpR X (binaryOp .Mod) (rI (fun _ j => 0 < j) fun i j => .int (i % j)) := opI fun i j _ _ _ _ _ hc q => by
  have h1 : (0 : Int) < j := hc
  exact mod_int' (by omega) (by rw [Int.fmod_eq_emod_of_nonneg i (by omega)]; exact q)
theorem op_pow : OpR X (binaryOp .Pow) (rI CPow fun i j => .int (i ^ j.toNat)) := opI fun _ _ _ _ _ _ _ hc q => pow_int_small hc.1 hc.2.1 hc.2.2 q
theorem unI {f : Value → Sem Value} {g : Int → Int}
    (rule : ∀ (i : Int) (t : Tok) (s : Shared) (Q : Value → Shared → Prop) (E : Value → Shared → Prop), Q (.int (g i) s.toks) { s with toks := s.toks + 1 } → wpAny (model X.prog X.w) X.A (f (.int i t)) Q E s) :
    UnR X f (rU fun i => .int (g i)) := by
  intro pins s σ H x v Q I rx h
  obtain ⟨i, rfl, q⟩ := h
  obtain ⟨t, rfl⟩ := rx
  exact rule i t s _ _ ⟨.int (g i), H, I.tok _, ⟨_, rfl⟩, q⟩
theorem un_neg : UnR X (unaryOp .USub) (rU fun i => .int (-i)) := unI fun _ _ _ _ _ q => neg_int q
end
def scal : V → V → Bool
  | .non, .non => true | .non, .int _ => true | .int _, .non => true | .non, .bl _ => true | .bl _, .non => true | .non, .str _ => true | .str _, .non => true
  | .int _, .int _ => true | .bl _, .bl _ => true | .str _, .str _ => true | .byt _, .byt _ => true
  | .int _, .str _ => true | .str _, .int _ => true | .bl _, .str _ => true | .str _, .bl _ => true
  | _, _ => false
def rEq : R2 := fun x y H Q => scal x y = true ∧ Q (.bl (decide (x = y))) H
def rNe : R2 := fun x y H Q => scal x y = true ∧ Q (.bl (!decide (x = y))) H
section
variable {X : Cx} {a b c : Expr} {ta tb tc : TE} {pos : Pos}
theorem fin_bl {pins : List (Addr × Obj)} {σ : St} {H : Hp} {s : Shared} {Q : VK} {k k' : Bool} (I : Inv X pins σ H s) (q : Q (.bl k) H) (e : k = k') : EP X pins σ Q (.bool k') s := by
  subst e
  exact ⟨.bl k, H, I, rfl, q⟩
theorem op_lt : OpR X (compareOp .Lt) (rI0 fun i j => .bl (decide (i < j))) := opB0 fun _ _ _ _ _ _ _ q => lt_int q
theorem op_le : OpR X (compareOp .LtE) (rI0 fun i j => .bl (decide (i ≤ j))) := opB0 fun _ _ _ _ _ _ _ q => le_int q
theorem op_gt : OpR X (compareOp .Gt) (rI0 fun i j => .bl (decide (j < i))) := opB0 fun _ _ _ _ _ _ _ q => gt_int q
theorem op_ge : OpR X (compareOp .GtE) (rI0 fun i j => .bl (decide (j ≤ i))) := opB0 fun _ _ _ _ _ _ _ q => ge_int q
theorem op_isN : OpR X (compareOp .Is) (fun x y H Q => y = .non ∧ Q (.bl (decide (x = .non))) H) := by
  intro pins s σ H x y v u Q I rx ry h
  obtain ⟨rfl, q⟩ := h
  cases ry
  refine is_none_gen (fin_bl I q ?_)
  cases x <;> first
    | (cases rx; rfl)
    | (obtain ⟨t, rfl⟩ := rx; rfl)
def isObj : HO → Bool
  | .lst _ => true
  | .ins _ _ _ => true
  | _ => false
theorem obj_there {pins : List (Addr × Obj)} {s : Shared} {σ : St} {H : Hp} {a : Addr} {o : HO} (I : Inv X pins σ H s) (h : H a = some o) (p : isObj o = true) : ∃ ob, s.heap.get? a = some ob ∧ ob.cls ≠ .type "tuple" := by
  cases o with
  | lst xs =>
    obtain ⟨_, its, n, _, e⟩ : xs.length ≤ sizeLine ∧ ∃ (its : List Value) (n : Nat), Vals xs its ∧ s.heap.get? a = some { cls := .type "list", data := .seq its.toArray n } := I.hok a _ h
    exact ⟨_, e, (by show Value.type "list" ≠ .type "tuple"; decide +kernel)⟩
  | ins C dx fs =>
    have x := I.hok a _ h
    obtain ⟨_, _, _, e, _⟩ := x
    exact ⟨_, e, (by show Value.ref C ≠ .type "tuple"; exact fun z => by cases z)⟩
  | _ => exact absurd (show false = true from p) Bool.false_ne_true
theorem OpR.or {f : Value → Value → Sem Value} {r r' : R2} (h : OpR X f r) (h' : OpR X f r') : OpR X f (fun x y H Q => r x y H Q ∨ r' x y H Q) := by
  intro pins s σ H x y v u Q I rx ry q
  rcases q with q | q
  · exact h pins s σ H x y v u Q I rx ry q
  · exact h' pins s σ H x y v u Q I rx ry q
theorem pe_cmpR {op : CmpOp} {r : R2} (ho : OpR X (compareOp op) r) (ha : PE X a ta) (hb : PE X b tb) (hm : behindInMarks op b = false) : PE X (.Compare a [op] [b] pos) (tOp r ta tb) := by
  intro pins s σ H Q I h
  exact wpAny_Compare1 (binT ha hb I h fun v u s2 x y H2 I2 rx ry q => ho pins s2 σ H2 x y v u Q I2 rx ry q) hm
def tTest (t : TE) : TT := fun σ H Q => t σ H fun x H' => ∃ k, x = .bl k ∧ Q k H'
theorem pt_cmpR {op : CmpOp} {r : R2} (ho : OpR X (compareOp op) r) (ha : PE X a ta) (hb : PE X b tb) (hm : behindInMarks op b = false) : PT X (.Compare a [op] [b] pos) (tTest (tOp r ta tb)) := by
  intro pins s σ H Q I h
  refine wpAny_isTrue_Compare1 (thn (ha pins s σ H _ I h) fun v s1 ⟨x, H1, I1, r1, q1⟩ => thn (hb pins s1 σ H1 _ I1 q1) fun u s2 ⟨y, H2, I2, r2, q2⟩ =>
    thn (ho pins s2 σ H2 x y v u _ I2 r1 r2 q2) fun c s3 ⟨z, H3, I3, r3, k, e, q3⟩ => ?_) hm
  subst e
  cases r3
  exact wpAny_truthy_bool ⟨H3, I3, q3⟩
def tChain (r r' : R2) (ta tb tc : TE) : TE := fun σ H Q => ta σ H fun x H1 => tb σ H1 fun y H2 => r x y H2 fun z H3 => ∃ k, z = .bl k ∧
  (if k = true then tc σ H3 fun w' H4 => r' y w' H4 Q else Q (.bl false) H3)
theorem pe_chain {op op' : CmpOp} {r r' : R2} (ho : OpR X (compareOp op) r) (ho' : OpR X (compareOp op') r') (ha : PE X a ta) (hb : PE X b tb) (hc : PE X c tc)
    (hm : lastMarks [op, op'] [b, c] = false := by with_unfolding_all rfl) : PE X (.Compare a [op, op'] [b, c] pos) (tChain r r' ta tb tc) := by
  intro pins s σ H Q I h
  refine Compare_chain (thn (ha pins s σ H _ I h) fun v s1 ⟨x, H1, I1, r1, q1⟩ => chain_link (thn (hb pins s1 σ H1 _ I1 q1) fun u s2 ⟨y, H2, I2, r2, q2⟩ =>
    thn (ho pins s2 σ H2 x y v u _ I2 r1 r2 q2) fun d s3 ⟨z, H3, I3, r3, k, e, q3⟩ => ?_)) hm
  subst e
  cases r3
  refine wpAny_truthy_bool ?_
  cases k with
  | false => exact ite_ff ⟨.bl false, H3, I3, rfl, q3⟩
  | true => exact ite_tt (chain_last (thn (hc pins s3 σ H3 _ I3 q3) fun w' s4 ⟨z', H4, I4, r4, q4⟩ => ho' pins s4 σ H4 y z' u w' Q I4 r2 r4 q4))
def TruV (K : PySem.W.Frag) (x : V) (H : Hp) (k : Bool) : Prop :=
  match x with
  | .non => k = false
  | .bl b => k = b
  | .int i => k = (i != 0)
  | .str y => y.length ≤ sizeLine ∧ k = ((y.length : Int) != 0)
  | .byt y => y.size ≤ sizeLine ∧ k = ((y.size : Int) != 0)
  | .ref p => (∃ xs, SqL K H p xs ∧ k = !xs.isEmpty) ∨ (∃ xs, SqT K H p xs ∧ k = !xs.isEmpty) ∨ ∃ kvs, H p = some (.dK kvs) ∧ k = !kvs.isEmpty
  | _ => False
theorem isEmpty_kv {κ : Type} {kvs : List (κ × V)} {vs : List (κ × Value)} (r : KV kvs vs) : (!vs.isEmpty) = !kvs.isEmpty := by
  cases r <;> rfl
theorem isEmpty_of {xs : List V} {its : List Value} (r : Vals xs its) : (!its.toArray.isEmpty) = !xs.isEmpty := by
  cases r <;> simp
theorem line63 : (sizeLine : Nat) < 2 ^ 63 := by rw [sizeLine_eq]; decide
theorem tru_ok : TruR X (fun x H Q => ∃ k, TruV X.K x H k ∧ Q k H) := by
  intro pins s σ H x v Q I rx h
  obtain ⟨k, e, q⟩ := h
  have hl := line63
  have hs : sizeLine = 16777216 := sizeLine_eq
  cases x with
  | non =>
    cases rx
    have e' : k = false := e
    subst e'
    exact truthy_none ⟨H, I, q⟩
  | bl b =>
    cases rx
    have e' : k = b := e
    subst e'
    exact wpAny_truthy_bool ⟨H, I, q⟩
  | int i =>
    obtain ⟨t, rfl⟩ := rx
    have e' : k = (i != 0) := e
    subst e'
    exact PySem.P.truthy_int ⟨H, I, q⟩
  | str y =>
    obtain ⟨t, rfl⟩ := rx
    obtain ⟨hy, e'⟩ : y.length ≤ sizeLine ∧ k = ((y.length : Int) != 0) := e
    subst e'
    exact PySem.P.truthy_str (by omega) ⟨H, I.tok _, q⟩
  | byt y =>
    obtain ⟨t, rfl⟩ := rx
    obtain ⟨hy, e'⟩ : y.size ≤ sizeLine ∧ k = ((y.size : Int) != 0) := e
    subst e'
    exact PySem.W.truthy_bytes (by omega) ⟨H, I.tok _, q⟩
  | ref p =>
    cases rx
    have e' : (∃ xs, SqL X.K H p xs ∧ k = !xs.isEmpty) ∨ (∃ xs, SqT X.K H p xs ∧ k = !xs.isEmpty) ∨ ∃ kvs, H p = some (.dK kvs) ∧ k = !kvs.isEmpty := e
    rcases e' with ⟨xs, hx, e'⟩ | ⟨xs, hx, e'⟩ | ⟨kvs, hx, e'⟩
    · subst e'
      obtain ⟨its, r, pl, hz⟩ := I.list hx
      have hlen := r.length
      exact wpAny_truthy_list pl.isList (by simp only [List.size_toArray]; omega) ⟨H, I.tok _, by rw [isEmpty_of r]; exact q⟩
    · subst e'
      obtain ⟨its, r, pl, hz⟩ := I.tuple hx
      have hlen := r.length
      exact truthy_tuple pl (by simp only [List.size_toArray]; omega) ⟨H, I.tok _, by rw [isEmpty_of r]; exact q⟩
    · subst e'
      obtain ⟨hz, hS, vs, r, m⟩ : kvs.length ≤ sizeLine ∧ (p == sysModules) = false ∧ ∃ vs, KV kvs vs ∧ s.heap.DictOf (mixKind X.prog X.w) p vs := I.hok p _ hx
      have hlen : kvs.length = vs.length := Paired.length r
      exact wpAny_truthy_dict hS m (by omega) ⟨H, I.tok _, by rw [isEmpty_kv r]; exact q⟩
  | _ => exact (show False from e).elim
theorem pt_truth (ha : PE X a ta) (he : ∀ whole, isTrue a X.env whole = (do let v ← whole; standAt a.pos; holding [v] (truthy v))) :
    PT X a (fun σ H Q => ta σ H fun x H' => ∃ k, TruV X.K x H' k ∧ Q k H') := by
  intro pins s σ H Q I h
  exact isTrue_plain (thn (ha pins s σ H _ I h) fun v s1 ⟨x, H1, I1, r1, q1⟩ => tru_ok pins s1 σ H1 x v Q I1 r1 q1) (he _)
theorem op_add_str : OpR X (binaryOp .Add) (fun x y H Q => ∃ i j, x = .str i ∧ y = .str j ∧ i.length + j.length ≤ sizeLine ∧ Q (.str (i ++ j)) H) := by
  intro pins s σ H x y v u Q I rx ry h
  obtain ⟨i, j, rfl, rfl, hz, q⟩ := h
  obtain ⟨t, rfl⟩ := rx
  obtain ⟨t', rfl⟩ := ry
  exact add_str (fun t' tk => ⟨.str (i ++ j), H, I.tok _, ⟨_, rfl⟩, q⟩) hz
def PlainIxT (b : Expr) : Prop := ∀ o i, subscripted b false o i = operate [o, i] (getItem o i)
theorem vals1 {x : V} {us : List Value} (r : Vals [x] us) : ∃ u, us = [u] ∧ RelV x u := by
  cases r with
  | cons r1 r2 => cases r2; exact ⟨_, rfl, r1⟩
theorem vals2 {x y : V} {us : List Value} (r : Vals [x, y] us) : ∃ u w', us = [u, w'] ∧ RelV x u ∧ RelV y w' := by
  cases r with
  | cons r1 r2 =>
    cases r2 with
    | cons r3 r4 => cases r4; exact ⟨_, _, rfl, r1, r3⟩
theorem call_max2 (hc : X.calm = true) : CallR X (.builtin "max") (fun xs H Q => ∃ i j, xs = [.int i, .int j] ∧ Q (.int (if j > i then j else i)) H) := by
  intro pins s σ H xs us Q I r h
  obtain ⟨i, j, rfl, q⟩ := h
  obtain ⟨u, w', rfl, ⟨t, rfl⟩, ⟨t', rfl⟩⟩ := vals2 r
  refine max_two_ints (I.ok.hd hc) fun h' tk k => ⟨_, H, I.kept k, ?_, q⟩
  by_cases hj : j > i
  · rw [if_pos hj, if_pos hj]; exact ⟨_, rfl⟩
  · rw [if_neg hj, if_neg hj]; exact ⟨_, rfl⟩
theorem call_min2 (hc : X.calm = true) : CallR X (.builtin "min") (fun xs H Q => ∃ i j, xs = [.int i, .int j] ∧ Q (.int (if j < i then j else i)) H) := by
  intro pins s σ H xs us Q I r h
  obtain ⟨i, j, rfl, q⟩ := h
  obtain ⟨u, w', rfl, ⟨t, rfl⟩, ⟨t', rfl⟩⟩ := vals2 r
  refine min_two_ints (I.ok.hd hc) fun h' tk k => ⟨_, H, I.kept k, ?_, q⟩
  by_cases hj : j < i
  · rw [if_pos hj, if_pos hj]; exact ⟨_, rfl⟩
  · rw [if_neg hj, if_neg hj]; exact ⟨_, rfl⟩
def LenV (K : PySem.W.Frag) (x : V) (H : Hp) (n : Nat) : Prop :=
  match x with
  | .str y => y.length ≤ sizeLine ∧ n = y.length
  | .byt y => y.size ≤ sizeLine ∧ n = y.size
  | .ref p => (∃ xs, SqL K H p xs ∧ n = xs.length) ∨ ∃ xs, SqT K H p xs ∧ n = xs.length
  | _ => False
end
end L2
namespace L2
open PySem PySem.Spec PyProof.Rows
structure ObjM (h : Heap) (x dx C : Addr) (mA : Str → Option Value) : Prop where
  obj : h.get? x = some (PySem.W.instObj C dx)
  ns : h.Ns1 dx mA
  ne : dx ≠ x
theorem lookIn_ns {h : Heap} {dx : Addr} {mA : Str → Option Value} (n : h.Ns1 dx mA) : ∃ od, h.get? dx = some od ∧ ∀ name, PySem.W.lookIn name od = some (mA name) := by
  obtain ⟨o, es, ep, ho, hd, hk, _, hm⟩ := n
  refine ⟨o, ho, fun name => ?_⟩
  have e := hm name
  unfold nsFind findBy at e
  rw [← Array.find?_toList] at e
  unfold PySem.W.lookIn
  rw [hd]
  dsimp only
  split
  · rename_i y q
    rw [q] at e
    exact congrArg some e
  · rename_i q
    rw [q] at e
    have a : es.toList.any (·.refKey) = false := by
      rw [List.any_eq_false]
      intro y hy
      obtain ⟨z, t, hkey⟩ := hk y (Array.mem_toList_iff.mp hy)
      simp [DictEntry.refKey, hkey]
    have a' : ¬ es.toList.any (·.refKey) = true := by rw [a]; exact Bool.false_ne_true
    rw [if_neg a']
    exact congrArg some e
theorem ObjM.look {h : Heap} {x dx C : Addr} {mA : Str → Option Value} (I : ObjM h x dx C mA) : ∃ od, PySem.W.InstAt h x (PySem.W.instObj C dx) C (some od) ∧ ∀ name, PySem.W.lookIn name od = some (mA name) :=
  let ⟨od, ho, hl⟩ := lookIn_ns I.ns
  ⟨od, ⟨I.obj, rfl, rfl, ho⟩, hl⟩
section
variable {prog : Program} {w : World} {A : Around} {E : Value → Shared → Prop} {s : Shared} {K : PySem.W.Frag} {x dx C f : Addr} {mA : Str → Option Value} {name : Str} {v : Value}
end
def putF (f : Str) (v : V) : List (Str × V) → List (Str × V)
  | [] => [(f, v)]
  | (g, x) :: r => if g = f then (g, v) :: r else (g, x) :: putF f v r
theorem RelO.none_of {o : Option Value} (r : RelO none o) : o = none := by
  cases o with
  | none => rfl
  | some u => exact (show False from r).elim
section
variable {P : Program} {w : World} {H H' : Hp} {h h' : Heap} {a C dx : Addr} {fs fs' : List (Str × V)}
end
structure Cls (K : PySem.W.Frag) (C : Addr) : Prop where
  pg : PySem.W.plainGet K C Str.empty = true
  hd : PySem.W.hasDictIn K C = true
  po : PySem.W.plainOver K C = true
  sa : PySem.W.findIn K (.ref C) "__setattr__" = some (some (.builtin "object.__setattr__"))
theorem Cls.get {K : PySem.W.Frag} {C : Addr} (c : Cls K C) (f : Str) : PySem.W.plainGet K C f = true := c.pg
def NoAttr (K : PySem.W.Frag) (C : Addr) (f : Str) : Prop := PySem.W.findIn K (.ref C) f = some none
structure Con (K : PySem.W.Frag) (C : Addr) (f : Str) (v : V) (u : Value) : Prop where
  at_ : PySem.W.findIn K (.ref C) f = some (some u)
  rel : RelV v u
  get : PySem.W.specialIn K u "__get__" = some none
  cp : PySem.W.copiedNames.contains f = false
structure Meth (K : PySem.W.Frag) (C : Addr) (m : Str) (f : Addr) : Prop where
  at_ : PySem.W.findIn K (.ref C) m = some (some (.ref f))
  fn : PySem.W.isFn K (.ref f) = true
  kp : PySem.W.keepIn K (.ref f) = true
section
variable {X : Cx} {pins : List (Addr × Obj)} {σ : St} {H : Hp} {s : Shared} {a C dx : Addr} {fs : List (Str × V)} {f : Str} {v : V} {A : Around} {E : Value → Shared → Prop}
theorem Inv.made (I : Inv X pins σ H s) : Inv X pins σ (upd (upd H s.heap.objs.size (.own (s.heap.objs.size + 1))) (s.heap.objs.size + 1) (.ins C s.heap.objs.size []))
    { s with heap := (s.heap.push PySem.W.emptyDict).push (PySem.W.instObj C s.heap.objs.size) } := by
  have e1 : (s.heap.push PySem.W.emptyDict).get? s.heap.objs.size = some PySem.W.emptyDict := Heap.get?_push_size s.heap rfl
  have e2 : ((s.heap.push PySem.W.emptyDict).push (PySem.W.instObj C s.heap.objs.size)).get? (s.heap.objs.size + 1) = some (PySem.W.instObj C s.heap.objs.size) := by
    have := Heap.get?_push_size (s.heap.push PySem.W.emptyDict) (o := PySem.W.instObj C s.heap.objs.size) rfl
    rwa [Heap.size_push] at this
  have e3 : (s.heap.push PySem.W.emptyDict).Ns s.heap.objs.size (fun _ => none) := ⟨PySem.W.emptyDict, #[], _, e1, rfl, (fun e he => absurd he (by simp)), fun _ => rfl⟩
  have I1 := I.laid (a := s.heap.objs.size) (o := .own (s.heap.objs.size + 1)) (h' := s.heap.push PySem.W.emptyDict) (t' := s.toks) (fun b u q => Heap.get?_push_of_some _ q) (Nat.le_refl _) ⟨_, e1⟩
  refine I1.laid (a := s.heap.objs.size + 1) (o := .ins C s.heap.objs.size []) (t' := s.toks) (fun b u q => Heap.get?_push_of_some _ q) (Nat.le_of_eq (Heap.size_push _ _)) ?_
  have ne : s.heap.objs.size ≠ s.heap.objs.size + 1 := Nat.ne_of_lt (Nat.lt_succ_self _)
  refine ⟨by rw [upd_ne ne, upd_same], Nat.zero_le _, ne, e2, fun _ => none, (Heap.Ns1.of_empty e3).at fun o q => Heap.get?_push_of_some _ q, fun _ => True.intro, fun y hy => absurd rfl hy⟩
end
def tFld (K : PySem.W.Frag) (ta : TE) (f : Str) : TE := fun σ H Q => ta σ H fun x H1 => ∃ a C dx fs v, x = .ref a ∧ H1 a = some (.ins C dx fs) ∧ Cls K C ∧ NoAttr K C f ∧ fs.lookup f = some v ∧ Q v H1
def tCon (K : PySem.W.Frag) (ta : TE) (f : Str) : TE := fun σ H Q => ta σ H fun x H1 => ∃ a C dx fs v u, x = .ref a ∧ H1 a = some (.ins C dx fs) ∧ Cls K C ∧ Con K C f v u ∧ fs.lookup f = none ∧ Q v H1
def sFld (K : PySem.W.Frag) (ta tv : TE) (f : Str) : TS := fun D σ H => tv σ H fun y H1 => ta σ H1 fun x H2 => ∃ a C dx fs, x = .ref a ∧ H2 a = some (.ins C dx fs) ∧ Cls K C ∧ NoAttr K C f ∧ fs.length < 1000 ∧
  D.nx σ (upd H2 a (.ins C dx (putF f y fs)))
def InOp (X : Cx) (op : Operator) (rd : V → V → Hp → VK → Prop) : Prop :=
  ∀ (pins : List (Addr × Obj)) (s : Shared) (σ : St) (H : Hp) (x y : V) (u v : Value) (Q : VK), Inv X pins σ H s → RelV x u → RelV y v → rd x y H Q → wpAny (model X.prog X.w) X.A (inplaceOp op u v) (EP X pins σ Q) X.xe s
def sFldAug (K : PySem.W.Frag) (ta tv : TE) (rd : V → V → Hp → VK → Prop) (f : Str) : TS := fun D σ H => ta σ H fun x H1 => ∃ a C dx fs v, x = .ref a ∧ H1 a = some (.ins C dx fs) ∧ Cls K C ∧ NoAttr K C f ∧ fs.lookup f = some v ∧
  tv σ H1 fun y H2 => rd v y H2 fun z H3 => ∃ dx' fs', H3 a = some (.ins C dx' fs') ∧ fs'.length < 1000 ∧ D.nx σ (upd H3 a (.ins C dx' (putF f z fs')))
section
variable {X : Cx} {o e value : Expr} {f : Str} {pos pos' tpos : Pos} {ta tv : TE}
def rAdd : V → V → Hp → VK → Prop := fun x y H Q => ∃ i j, x = .int i ∧ y = .int j ∧ Q (.int (i + j)) H
def rSub : V → V → Hp → VK → Prop := fun x y H Q => ∃ i j, x = .int i ∧ y = .int j ∧ Q (.int (i - j)) H
end
section
variable {X : Cx} {pins : List (Addr × Obj)} {σ : St} {H : Hp} {s : Shared} {A : Around} {E : Value → Shared → Prop} {Q : Value → Shared → Prop} {c : Value} {b : Bool}
inductive TyOf (K : PySem.W.Frag) (H : Hp) : V → Value → Prop where
  | non : TyOf K H .non (.type "NoneType")
  | bl (x : Bool) : TyOf K H (.bl x) (.type "bool")
  | int (i : Int) : TyOf K H (.int i) (.type "int")
  | str (x : Str) : TyOf K H (.str x) (.type "str")
  | flt (x : UInt64) : TyOf K H (.flt x) (.type "float")
  | lst {a : Addr} {xs : List V} (e : H a = some (.lst xs)) : TyOf K H (.ref a) (.type "list")
  | frz {a : Addr} {o : Obj} {xs : List V} (e : H a = some (.frz o (.lst xs))) : TyOf K H (.ref a) (.type "list")
  | tup {a : Addr} {xs : List V} (e : H a = some (.tup xs)) : TyOf K H (.ref a) (.type "tuple")
  | dK {a : Addr} {kvs : List (Key × V)} (e : H a = some (.dK kvs)) : TyOf K H (.ref a) (.type "dict")
  | dT {a : Addr} {kvs : List (List Key × V)} (e : H a = some (.dT kvs)) : TyOf K H (.ref a) (.type "dict")
  | ins {a C dx : Addr} {fs : List (Str × V)} (e : H a = some (.ins C dx fs)) (cl : Cls K C) (ha : PySem.W.findIn K (.ref C) "__class__" = some (some (.builtin "object.__class__")))
      (hn : PySem.W.specialIn K (.builtin "object.__class__") "__get__" = some (some (.builtin "getset_descriptor.__get__"))) (htk : PySem.W.takesIn K (.builtin "object.__class__") = some true)
      (hm : PySem.W.mroIn K C (.type "object") = some true) : TyOf K H (.ref a) (.ref C)
end
end L2
namespace L2
open PySem PySem.Spec PyProof.Rows
structure Room (k : Nat) (A : Around) : Prop where
  hd : A.handled = none
  dp : A.depth + 3 * k + 5 < recursionLimit
  un : A.units + 16 * k + 200 < cLine
  gu : A.guards = some []
theorem Room.mono {j k : Nat} {A : Around} (r : Room k A) (h : j ≤ k) : Room j A := ⟨r.hd, by have := r.dp; omega, by have := r.un; omega, r.gu⟩
theorem Room.deeper {k : Nat} {A : Around} (r : Room (k + 1) A) (env : Env) : Room k (A.deeper env) :=
  ⟨r.hd, by have := r.dp; show A.depth + 1 + 3 * k + 5 < _; omega, by have := r.un; show A.units + 3 + 16 * k + 200 < _; omega, r.gu⟩
theorem Room.in1 {k : Nat} {A : Around} (r : Room (k + 1) A) : Room k A.in1 :=
  ⟨r.hd, by have := r.dp; show A.depth + 3 * k + 5 < _; omega, by have := r.un; show A.units + 1 + 16 * k + 200 < _; omega, r.gu⟩
theorem make_depth {A : Around} {C : Addr} {us : List Value} {kw : List (Str × Value)} : (A.under (.builtin "type.__call__" ⟨.ref C :: us, kw⟩)).depth = A.depth + 1 := by
  first | rfl | simp [Around.under, Code.weight, Code.isCreation, Code.isGuard, Code.isCaller, Code.frames, Code.isFrame, guardIds]
theorem make_units {A : Around} {C : Addr} {us : List Value} {kw : List (Str × Value)} : (A.under (.builtin "type.__call__" ⟨.ref C :: us, kw⟩)).units = A.units + 1 := by
  first | rfl | simp [Around.under, Code.cUnits, Code.frames, Code.isFrame]
theorem make_guards {A : Around} {C : Addr} {us : List Value} {kw : List (Str × Value)} (h : A.guards = some []) : (A.under (.builtin "type.__call__" ⟨.ref C :: us, kw⟩)).guards = some [] := by
  simp [Around.under, Code.guards, Code.isGuard, guardIds, pushGuards, h]
theorem Room.make {k : Nat} {A : Around} (r : Room (k + 1) A) (C : Addr) (us : List Value) (kw : List (Str × Value)) : Room k (A.under (.builtin "type.__call__" ⟨.ref C :: us, kw⟩)) :=
  ⟨r.hd, by have := r.dp; rw [make_depth]; omega, by have := r.un; rw [make_units]; omega, make_guards r.gu⟩
theorem Room.depth {k : Nat} {A : Around} (r : Room k A) : A.depth < recursionLimit := by have := r.dp; omega
theorem Room.units {k : Nat} {A : Around} (r : Room k A) : A.units + 64 < cLine := by have := r.un; omega
def tNil : TA := fun _ H Q => Q [] H
def tCons (ta : TE) (tr : TA) : TA := fun σ H Q => ta σ H fun x H1 => tr σ H1 fun xs H2 => Q (x :: xs) H2
section
variable {X : Cx} {e : Expr} {es : List Expr} {te : TE} {t : TA} {pos : Pos}
theorem pa_nil : PA X [] tNil := fun _ _ _ _ H Q I h => Calls.spliced_nil ⟨[], H, I, .nil, h⟩
theorem pa_cons (ha : PE X e te) (hr : PA X es t) (hs : starEach (e :: es) X.env = (false, eval e X.env) :: starEach es X.env := by rfl) : PA X (e :: es) (tCons te t) := by
  intro pos pins s σ H Q I h
  rw [hs]
  show wpAny _ _ (spliced ((false, eval e X.env) :: backTo pos (starEach es X.env))) _ _ s
  refine Calls.spliced_cons (thn (ha pins s σ H _ I h) fun u s1 ⟨x, H1, I1, r1, q1⟩ => ?_)
  exact thn (hr pos pins s1 σ H1 _ I1 q1) fun us s2 ⟨xs, H2, I2, r2, q2⟩ => ⟨x :: xs, H2, I2, .cons r1 r2, q2⟩
def tTup (t : TA) : TE := fun σ H Q => t σ H fun xs H1 => xs.length ≤ sizeLine ∧ ∀ p, H1 p = none → Q (.ref p) (upd H1 p (.tup xs))
def tLst (t : TA) : TE := fun σ H Q => t σ H fun xs H1 => xs.length ≤ sizeLine ∧ ∀ p, H1 p = none → Q (.ref p) (upd H1 p (.lst xs))
theorem pe_tup {x1} (h : PA X es t) : PE X (.Tuple es x1 pos) (tTup t) := by
  intro pins s σ H Q I hq
  refine wpAny_Tuple_spliced (thn (h pos pins s σ H _ I hq) fun us s1 ⟨xs, H1, I1, r, z, q⟩ => ⟨by rw [← r.length]; exact z, ?_⟩)
  have hf : H1 s1.heap.objs.size = none := I1.hok.fresh (Nat.le_refl _)
  refine ⟨.ref s1.heap.objs.size, upd H1 s1.heap.objs.size (.tup xs), I1.laid (t' := s1.toks) (fun b u e => Heap.get?_push_of_some _ e) (Nat.le_refl _) ?_, rfl, q _ hf⟩
  exact ⟨z, us, r, ⟨_, Heap.get?_push_size _ rfl, rfl, ⟨_, rfl⟩, rfl⟩⟩
theorem pe_lst (h : PA X es t) : PE X (.List es pos) (tLst t) := by
  intro pins s σ H Q I hq
  refine wpAny_List_spliced (thn (h pos pins s σ H _ I hq) fun us s1 ⟨xs, H1, I1, r, z, q⟩ => ⟨by rw [← r.length]; exact z, ?_⟩)
  have hf : H1 s1.heap.objs.size = none := I1.hok.fresh (Nat.le_refl _)
  refine ⟨.ref s1.heap.objs.size, upd H1 s1.heap.objs.size (.lst xs), I1.laid (t' := s1.toks) (fun b u e => Heap.get?_push_of_some _ e) (Nat.le_refl _) ?_, rfl, q _ hf⟩
  exact ⟨z, us, 0, r, Heap.get?_push_size _ rfl⟩
end
abbrev Sp := List V → Hp → VK → XK → Prop
abbrev CXT := List Env → Hp → Shared → XK → Value → Shared → Prop
structure Env0 (P : Program) (w : World) (K : PySem.W.Frag) (mg : Str → Option Value) (base : Heap) (A : Around) (outer : List Env) (s : Shared) (H : Hp) : Prop where
  frames : A.frames = some outer
  mod : Mod K mg base
  bs : ∀ b o, base.get? b = some o → s.heap.get? b = some o ∧ H b = none
  bsz : base.objs.size ≤ s.heap.objs.size
  funs : s.heap.FunFrames base outer
  frf : ∀ b ∈ frs outer, H b = none
  hok : HOk P w H s.heap
  bare : AllBare s.gens
def CE (outer : List Env) (P : Program) (w : World) (H : Hp) (s : Shared) (Q : VK) (u : Value) (s' : Shared) : Prop :=
  ∃ v H', s'.os = s.os ∧ AllBare s'.gens ∧ Un (frs outer) [] H H' s.heap s'.heap ∧ HOk P w H' s'.heap ∧ RelV v u ∧ Q v H'
def CR (CX : CXT) (outer : List Env) (P : Program) (w : World) (H : Hp) (s : Shared) (Q : VK) (E : XK) (r : Result) (s' : Shared) : Prop :=
  match r with
  | .ok (.ret u) => CE outer P w H s Q u s'
  | .ok _ => False
  | .error e => CX outer H s E e s'
structure FnOk (P : Program) (w : World) (K : PySem.W.Frag) (mg : Str → Option Value) (base : Heap) (CX : CXT) (k : Nat) (f : Addr) (fd : FuncData) (ps : List Str) (sp : Sp) : Prop where
  len : ∀ vs H Q E, sp vs H Q E → vs.length = ps.length
  run : ∀ (A : Around) (outer : List Env) (s : Shared) (H : Hp) (args : Args) (us : List Value) (vs : List V) (Q : VK) (E : XK), Room k A → Env0 P w K mg base A outer s H → BindsTo s fd args (ps.zip us) → Vals vs us → sp vs H Q E →
    codeAny (model P w) A (.call (.ref f) args) (CR CX outer P w H s Q E) s
theorem FnOk.mono {P : Program} {w : World} {K : PySem.W.Frag} {mg : Str → Option Value} {base : Heap} {CX : CXT} {j k : Nat} {f : Addr} {fd : FuncData} {ps : List Str} {sp : Sp} (F : FnOk P w K mg base CX j f fd ps sp) (h : j ≤ k) :
    FnOk P w K mg base CX k f fd ps sp := ⟨F.len, fun A outer s H args us vs Q E hr => F.run A outer s H args us vs Q E (hr.mono h)⟩
theorem FnOk.imp {P : Program} {w : World} {K : PySem.W.Frag} {mg : Str → Option Value} {base : Heap} {CX : CXT} {k : Nat} {f : Addr} {fd : FuncData} {ps : List Str} {sp sp' : Sp} (F : FnOk P w K mg base CX k f fd ps sp)
    (h : ∀ vs H Q E, sp' vs H Q E → sp vs H Q E) : FnOk P w K mg base CX k f fd ps sp' :=
  ⟨fun vs H Q E q => F.len vs H Q E (h _ _ _ _ q), fun A outer s H args us vs Q E hr he hb hv hs => F.run A outer s H args us vs Q E hr he hb hv (h _ _ _ _ hs)⟩
theorem Env0.make {P : Program} {w : World} {K : PySem.W.Frag} {mg : Str → Option Value} {base : Heap} {A : Around} {outer : List Env} {s : Shared} {H : Hp} (e : Env0 P w K mg base A outer s H) (C : Addr) (us : List Value) (kw : List (Str × Value)) :
    Env0 P w K mg base (A.under (.builtin "type.__call__" ⟨.ref C :: us, kw⟩)) outer s H := ⟨by first | exact e.frames | (simpa [Around.under, Code.envs, Code.isFrame, pushEnvs] using e.frames), e.mod, e.bs, e.bsz, e.funs, e.frf, e.hok, e.bare⟩
theorem Env0.in1 {P : Program} {w : World} {K : PySem.W.Frag} {mg : Str → Option Value} {base : Heap} {A : Around} {outer : List Env} {s : Shared} {H : Hp} (e : Env0 P w K mg base A outer s H) :
    Env0 P w K mg base A.in1 outer s H := ⟨e.frames, e.mod, e.bs, e.bsz, e.funs, e.frf, e.hok, e.bare⟩
section
variable {X : Cx} {pins : List (Addr × Obj)} {σ : St} {H : Hp} {s s' : Shared}
theorem Inv.env0 (I : Inv X pins σ H s) : Env0 X.prog X.w X.K X.mg X.base X.A X.stack s H :=
  ⟨I.ok.frames, I.ok.mod, I.bs, Nat.le_trans I.ok.bsz I.sz, I.stack, I.stkFree, I.hok, I.bare⟩
theorem Inv.after {Q : VK} {u : Value} (I : Inv X pins σ H s) (h : CE X.stack X.prog X.w H s Q u s') : EP X pins σ Q u s' := by
  obtain ⟨v, H', os, bare, un, hok, r, q⟩ := h
  obtain ⟨hh, g, d, t, os'⟩ := s'
  obtain rfl : os' = s.os := os
  exact ⟨v, H', I.call (h' := hh) (g' := g) (d' := d) (t' := t) (ch := []) un hok bare (fun b z => absurd z (by simp)), r, q⟩
end
def tCall (sp : Sp) (dvs : List V) (E : XK) (t : TA) : TE := fun σ H Q => t σ H fun vs H1 => sp (vs ++ dvs) H1 Q E
def tMeth (C : Addr) (m : Str) (sp : Sp) (dvs : List V) (E : XK) (ta : TE) (t : TA) : TE := fun σ H Q => ta σ H fun x H1 => ∃ a dx fs, x = .ref a ∧ H1 a = some (.ins C dx fs) ∧ fs.lookup m = none ∧
  t σ H1 fun vs H2 => sp (x :: (vs ++ dvs)) H2 Q E
def tMake (C : Addr) (sp : Sp) (dvs : List V) (E : XK) (t : TA) : TE := fun σ H Q => t σ H fun vs H1 => ∀ x dx, H1 x = none → H1 dx = none → dx ≠ x →
  sp (.ref x :: (vs ++ dvs)) (upd (upd H1 dx (.own x)) x (.ins C dx [])) (fun v H2 => v = .non ∧ Q (.ref x) H2) E
def Binds (K : PySem.W.Frag) (fd : FuncData) (ps : List Str) (ds : List Value) : Prop :=
  ∀ (s : Shared) (us : List Value), K.In s.heap → (us ++ ds).length = ps.length → BindsTo s fd ⟨us, []⟩ (ps.zip (us ++ ds))
theorem Binds.all {K : PySem.W.Frag} {fd : FuncData} {ps : List Str} (h : ∀ us : List Value, us.length = ps.length → bindArgs fd ⟨us, []⟩ = pure (ps.zip us)) : Binds K fd ps [] := fun s us _ hl => by
  rw [List.append_nil] at hl ⊢
  exact .of_eq (h us hl)
def Passes (CX : CXT) (X : Cx) (E : XK) : Prop := ∀ (pins : List (Addr × Obj)) (σ : St) (H : Hp) (s : Shared) (e : Value) (s' : Shared), Inv X pins σ H s → CX X.stack H s E e s' → X.xe e s'
section
variable {X : Cx} {CX : CXT} {k : Nat} {f C : Addr} {fd : FuncData} {ps : List Str} {sp : Sp} {dvs : List V} {ds : List Value} {E : XK} {x m : Str} {p pos apos : Pos} {e o : Expr} {es : List Expr} {ta : TE} {t : TA}
theorem run_fn {pins : List (Addr × Obj)} {σ : St} {H : Hp} {s : Shared} {Q : VK} {us : List Value} {vs : List V} (F : FnOk X.prog X.w X.K X.mg X.base CX k f fd ps sp) (hr : Room k X.A) (hb : Binds X.K fd ps ds) (hd : Vals dvs ds) (hx : Passes CX X E)
    (I : Inv X pins σ H s) (r : Vals vs us) (h : sp (vs ++ dvs) H Q E) : wpAny (model X.prog X.w) X.A (call (.ref f) us) (EP X pins σ Q) X.xe s := by
  have r2 : Vals (vs ++ dvs) (us ++ ds) := r.append hd
  have hl : (us ++ ds).length = ps.length := by rw [← r2.length]; exact F.len _ _ _ _ h
  refine wpAny_call (codeAny_mono (F.run X.A X.stack s H ⟨us, []⟩ (us ++ ds) (vs ++ dvs) Q E hr I.env0 (hb s us I.kIn hl) r2 h) fun r s' hq => ?_)
  cases r with
  | error e => exact hx pins σ H s e s' I hq
  | ok fl =>
    cases fl with
    | ret u => exact I.after hq
    | next => exact False.elim hq
    | brk => exact False.elim hq
    | cont => exact False.elim hq
theorem pe_call (F : FnOk X.prog X.w X.K X.mg X.base CX k f fd ps sp) (hr : Room k X.A) (hg : Gl X x) (hm : X.mg x = some (.ref f)) (hk : PySem.W.keepIn X.K (.ref f) = true) (hb : Binds X.K fd ps ds) (hd : Vals dvs ds) (hx : Passes CX X E)
    (ha : PA X (e :: es) t) (hdb : (x == ("__debug__" : Str)) = false := by decide) (he : starEach (e :: es) X.env = (false, eval e X.env) :: starEach es X.env := by rfl) (hpl : (backTo pos (starEach es X.env)).any (·.1) = false := by rfl) :
    PE X (.Call (.Name x p) (e :: es) [] pos) (tCall sp dvs E t) := by
  intro pins s σ H Q I h
  refine wpAny_Call_Name_kw (ld_glob I hg hm ?_ hdb)
  refine PySem.W.callWith_K (h₀ := X.base) I.ok.mod.kin hk (thn (ha pos pins s σ H _ I h) fun us s1 ⟨vs, H1, I1, r, q⟩ => ⟨I1.kIn, ?_⟩) he hpl
  exact run_fn F hr hb hd hx I1 r q
structure Mk (K : PySem.W.Frag) (C f : Addr) : Prop where
  makes : PySem.W.makesIn K C = true
  init : PySem.W.findIn K (.ref C) "__init__" = some (some (.ref f))
  fn : PySem.W.isFn K (.ref f) = true
  kp : PySem.W.keepIn K (.ref C) = true
end
def PK (X : Cx) (kws : List Keyword) (t : TA) : Prop :=
  ∀ (pos : Pos) (pins : List (Addr × Obj)) (s : Shared) (σ : St) (H : Hp) (Q : List V → Hp → Prop), Inv X pins σ H s → t σ H Q → wpAny (model X.prog X.w) X.A (evalAll ((backToKw pos (keywordEach kws X.env)).map (·.2))) (AP X pins σ Q) X.xe s
section
variable {X : Cx} {CX : CXT} {k : Nat} {f C : Addr} {fd : FuncData} {ps ks : List Str} {sp : Sp} {E : XK} {x m : Str} {p pos apos kpos : Pos} {e o : Expr} {es : List Expr} {kws : List Keyword} {te ta : TE} {t tk : TA} {nm : Option Str}
structure KBinds (K : PySem.W.Frag) (fd : FuncData) (ps ks : List Str) (g : List Value → List Value → List Value) (gV : List V → List V → List V) : Prop where
  to : ∀ (s : Shared) (us ws : List Value), K.In s.heap → (g us ws).length = ps.length → BindsTo s fd ⟨us, ks.zip ws⟩ (ps.zip (g us ws))
  rel : ∀ {vs : List V} {us : List Value} {zs : List V} {ws : List Value}, Vals vs us → Vals zs ws → Vals (gV vs zs) (g us ws)
def tCallK (sp : Sp) (gV : List V → List V → List V) (E : XK) (t tk : TA) : TE := fun σ H Q => t σ H fun vs H1 => tk σ H1 fun zs H2 => sp (gV vs zs) H2 Q E
variable {g : List Value → List Value → List Value} {gV : List V → List V → List V}
end
structure FnScope (N P : List Str) (sc : Scope) : Prop where
  kind : sc.kind = .function
  co : sc.isCoroutine = false
  gen : sc.isGenerator = false
  nd : N.Nodup
  pre : N.take P.length = P
  par : ∀ x ∈ P, sc.names.lookup x = some .local ∨ sc.names.lookup x = some .cell
  nofree : ∀ y ∈ sc.names, y.2 ≠ .free
theorem bindL_out {kindOf : Str → Option NameKind} {x : Str} : ∀ {binds : List (Str × Value)} {m : Str → Option Value}, (∀ v, (x, v) ∉ binds) → bindL kindOf binds m x = m x
  | [], _, _ => rfl
  | (n, v) :: r, m, h => by
    unfold bindL
    rw [bindL_out fun w hw => h w (List.mem_cons_of_mem _ hw)]
    split
    · have : x ≠ n := by rintro rfl; exact h v List.mem_cons_self
      simp [this]
    · rfl
theorem bindC_out {kindOf : Str → Option NameKind} {x : Str} : ∀ {binds : List (Str × Value)} {m : Str → Option Value}, (∀ v, (x, v) ∉ binds) → bindC kindOf binds m x = m x
  | [], _, _ => rfl
  | (n, v) :: r, m, h => by
    unfold bindC
    rw [bindC_out fun w hw => h w (List.mem_cons_of_mem _ hw)]
    split
    · rfl
    · have : x ≠ n := by rintro rfl; exact h v List.mem_cons_self
      simp [this]
theorem bindL_get {kindOf : Str → Option NameKind} {x : Str} {v : Value} : ∀ {P : List Str} {vs : List Value} {i : Nat} {m : Str → Option Value}, P.Nodup → P[i]? = some x → vs[i]? = some v → kindOf x = some .local →
    bindL kindOf (P.zip vs) m x = some v
  | [], _, _, _, _, h, _, _ => by simp at h
  | _ :: _, [], _, _, _, _, h, _ => by simp at h
  | p :: P, w :: vs, 0, m, nd, h1, h2, hk => by
    simp at h1 h2; subst h1; subst h2
    show bindL kindOf ((p, w) :: P.zip vs) m p = _
    unfold bindL
    rw [bindL_out fun v hv => (List.nodup_cons.mp nd).1 (List.of_mem_zip hv).1, if_pos hk]
    simp
  | p :: P, w :: vs, i + 1, m, nd, h1, h2, hk => by
    show bindL kindOf ((p, w) :: P.zip vs) m x = _
    unfold bindL
    exact bindL_get (i := i) (List.nodup_cons.mp nd).2 (by simpa using h1) (by simpa using h2) hk
theorem bindC_get {kindOf : Str → Option NameKind} {x : Str} {v : Value} : ∀ {P : List Str} {vs : List Value} {i : Nat} {m : Str → Option Value}, P.Nodup → P[i]? = some x → vs[i]? = some v → kindOf x ≠ some .local →
    bindC kindOf (P.zip vs) m x = some v
  | [], _, _, _, _, h, _, _ => by simp at h
  | _ :: _, [], _, _, _, _, h, _ => by simp at h
  | p :: P, w :: vs, 0, m, nd, h1, h2, hk => by
    simp at h1 h2; subst h1; subst h2
    show bindC kindOf ((p, w) :: P.zip vs) m p = _
    unfold bindC
    rw [bindC_out fun v hv => (List.nodup_cons.mp nd).1 (List.of_mem_zip hv).1, if_neg hk]
    simp
  | p :: P, w :: vs, i + 1, m, nd, h1, h2, hk => by
    show bindC kindOf ((p, w) :: P.zip vs) m x = _
    unfold bindC
    exact bindC_get (i := i) (List.nodup_cons.mp nd).2 (by simpa using h1) (by simpa using h2) hk
def start (N : List Str) (vs : List V) : St := vs.map some ++ List.replicate (N.length - vs.length) none
def cxOf (CX : CXT) (P : Program) (w : World) (K : PySem.W.Frag) (mg : Str → Option Value) (base : Heap) (N : List Str) (qual : Str) (scope : Scope) (f : Addr) (cd : Value) (A : Around) (outer : List Env) (s : Shared) (H : Hp) (E : XK) : Cx where
  prog := P
  w := w
  K := K
  mg := mg
  base := base
  A := A.deeper (envOfC qual scope s.heap.objs.size f cd)
  N := N
  s_0 := s
  H_0 := H
  env := envOfC qual scope s.heap.objs.size f cd
  outer := outer
  stack := envOfC qual scope s.heap.objs.size f cd :: outer
  ex := []
  calm := true
  fn := fun _ => true
  pn := []
  xe := fun e s' => wpAny (model P w) (A.deeper (envOfC qual scope s.heap.objs.size f cd)) (leaving (envOfC qual scope s.heap.objs.size f cd) e) (fun _ s'' => CX outer H s E e s'') (fun e' s'' => CX outer H s E e' s'') s'
theorem cell_has {sc : Scope} {n : Nat} {x : Str} (h : sc.names.lookup x = some .cell) : ∃ c, (cellsFrom n sc.names []).lookup x = some c := by
  have q := PySem.W.cellsFrom_some sc.names n [] (.inl h)
  exact Option.isSome_iff_exists.mp q
theorem inv_start {CX : CXT} {P : Program} {w : World} {K : PySem.W.Frag} {mg : Str → Option Value} {base : Heap} {N ps : List Str} {qual : Str} {scope : Scope} {f : Addr} {cd : Value} {A : Around} {outer : List Env} {s s1 : Shared} {H : Hp} {E : XK} {us : List Value} {vs : List V}
    (S : FnScope N ps scope) (hd : A.handled = none) (e0 : Env0 P w K mg base A outer s H) (hl : vs.length = ps.length) (r : Vals vs us)
    (x : InCallC s s.heap.objs.size (bindL (envOfC qual scope s.heap.objs.size f cd).kindOf (ps.zip us) fun _ => none) (cellsFrom (s.heap.objs.size + 1) scope.names []) (bindC (envOfC qual scope s.heap.objs.size f cd).kindOf (ps.zip us) fun _ => none) s1) :
    Inv (cxOf CX P w K mg base N qual scope f cd A outer s H E) [] (start N vs) H s1 := by
  have hpl : ps.length ≤ N.length := by have := congrArg List.length S.pre; rw [List.length_take] at this; omega
  obtain ⟨h1, tk, rfl, hk⟩ := x.done
  have noA : ∀ b : Addr, b ∉ (cxOf CX P w K mg base N qual scope f cd A outer s H E).ex := fun b z => absurd (show b ∈ ([] : List Addr) from z) (by simp)
  refine ⟨⟨e0.mod, S.kind, rfl, rfl, Nat.le_refl _, fun y z c h1 h2 => ?_, fun y hy => ?_, fun y c _ h => ?_, fun _ => hd, Around.frames_deeper e0.frames, .inr ⟨rfl, rfl⟩, fun b z => absurd z (noA b), e0.bs, e0.bsz, fun b _ _ => noA b, fun b z => absurd z (noA b), e0.funs, e0.frf⟩,
    rfl, e0.bare, Un.kept hk, ⟨_, x.toInCall.ns, fun i y v h1 h2 h3 => ?_⟩, fun y c h => ⟨_, x.cell y c h⟩, e0.hok.fresh (Nat.le_refl _), fun y c h => ?_, fun p hp => absurd (show p ∈ ([] : List (Addr × Obj)) from hp) (by simp), e0.hok.kept hk, ?_⟩
  · exact name_of_addr x.apart (PySem.mem_of_lookup h1) (PySem.mem_of_lookup h2)
  · have hy : scope.names.lookup y = some .cell ∨ scope.names.lookup y = some .free := hy
    rcases hy with hy | hy
    · exact cell_has hy
    · exact absurd rfl (S.nofree _ (PySem.mem_of_lookup hy))
  · exact Nat.le_of_lt (x.above y c (PySem.mem_of_lookup h))
  · have hi : i < vs.length := by
      unfold start at h2
      by_cases hi : i < vs.length
      · exact hi
      · rw [List.getElem?_append_right (by simpa using hi)] at h2
        rw [List.getElem?_replicate] at h2
        split at h2 <;> cases h2
    have ha : vs[i]? = some v := by
      unfold start at h2
      rw [List.getElem?_append_left (by simpa using hi), List.getElem?_map] at h2
      cases e : vs[i]? with
      | none => rw [e] at h2; cases h2
      | some a => rw [e] at h2; cases h2; rfl
    obtain ⟨u, hu, rv⟩ := r.get ha
    have hp : ps[i]? = some y := by
      rw [← S.pre, List.getElem?_take_of_lt (by omega)]; exact h1
    have ndP : ps.Nodup := by rw [← S.pre]; exact S.nd.sublist (List.take_sublist _ _)
    refine ⟨u, rv, ?_⟩
    rcases S.par y (List.mem_of_getElem? hp) with k | k
    · exact .inl ⟨k, bindL_get ndP hp hu k⟩
    · obtain ⟨c, e⟩ := cell_has (n := s.heap.objs.size + 1) k
      refine .inr ⟨.inl k, c, e, ?_⟩
      have q := x.cell y c e
      rw [bindC_get ndP hp hu (by show scope.names.lookup y ≠ _; rw [k]; decide)] at q
      exact q
  · exact e0.hok.fresh (Nat.le_of_lt (x.above y c (PySem.mem_of_lookup h)))
  · unfold start
    show _ = N.length
    rw [List.length_append, List.length_map, List.length_replicate]
    omega
theorem fn_of {CX : CXT} {P : Program} {w : World} {K : PySem.W.Frag} {mg : Str → Option Value} {base : Heap} {k : Nat} {f : Addr} {name qual : Str} {params : Arguments} {body : List Stmt} {scope : Scope} {dV kV doc pm cdv ct oc : Value} {an od : Option Addr}
    {osl : Array (Option Value)} {N ps : List Str} {sp : Sp} (lk : K.lookup f = some ⟨oc, od, .func (PySem.W.fnOf name qual params body scope dV kV doc pm an cdv ct), osl⟩) (hcd : PySem.W.codeIn K cdv qual = true) (S : FnScope N ps scope)
    (len : ∀ vs H Q E, sp vs H Q E → vs.length = ps.length)
    (hbody : ∀ (A : Around) (outer : List Env) (s : Shared) (H : Hp) (vs : List V) (Q : VK) (E : XK), Room k (A.deeper (envOfC qual scope s.heap.objs.size f cdv)) → sp vs H Q E →
      ∃ t, PSs (cxOf CX P w K mg base N qual scope f cdv A outer s H E) body t ∧ t { nx := fun _ H' => Q .non H', rt := Q } (start N vs) H) :
    FnOk P w K mg base CX (k + 1) f (PySem.W.fnOf name qual params body scope dV kV doc pm an cdv ct) ps sp := by
  refine ⟨len, fun A outer s H args us vs Q E hr e0 hb r hsp => ?_⟩
  have hl := len _ _ _ _ hsp
  have KX : K.In s.heap := e0.mod.kin.keeps fun b o e => (e0.bs b o e).1
  have lim : s.heap.NoLimit := e0.mod.nolimit.keeps fun b o e => (e0.bs b o e).1
  have hkind : ∀ y ∈ ps.zip us, scope.names.lookup y.1 = some .local ∨ (scope.names.lookup y.1 = some .cell ∧ ((cellsFrom (s.heap.objs.size + 1) scope.names []).lookup y.1).isSome = true) := fun ⟨n, v⟩ hy => by
    rcases S.par n (List.of_mem_zip hy).1 with q | q
    · exact .inl q
    · exact .inr ⟨q, PySem.W.cellsFrom_some _ _ _ (.inl q)⟩
  refine codeAny_call_function hr.depth (KX _ _ lk) rfl S.co S.gen rfl (PySem.W.codeRec_of KX hcd) (hb _ _ _ _ ?_)
  refine wpAny_newFunctionEnv_cells S.kind hkind fun env he s1 x => ?_
  subst he
  refine ⟨lim.keeps x.toInCall.keep, codeAny_func ?_⟩
  obtain ⟨t, ht, hq⟩ := hbody A outer s H vs Q E (hr.deeper _) hsp
  have I : Inv (cxOf CX P w K mg base N qual scope f cdv A outer s H E) [] (start N vs) H s1 := inv_start S hr.hd e0 hl r x
  refine wpAny_mono (ht [] s1 (start N vs) H _ I hq) (fun fl s' hs => ?_) fun e s' hs => hs
  have fin : ∀ {σ' : St} {H' : Hp} {v : V} {u : Value}, Inv (cxOf CX P w K mg base N qual scope f cdv A outer s H E) [] σ' H' s' → RelV v u → Q v H' → CE outer P w H s Q u s' :=
    fun {σ' H' v u} J rv q => ⟨v, H', J.os, J.bare, J.base, J.hok, rv, q⟩
  cases fl with
  | ret u =>
    obtain ⟨v, σ', H', J, rv, q⟩ := hs
    exact fin J rv q
  | next =>
    obtain ⟨σ', H', J, q⟩ := hs
    exact fin (v := V.non) (u := Value.none) J rfl q
  | brk =>
    obtain ⟨_, _, _, q⟩ := hs
    exact False.elim q
  | cont =>
    obtain ⟨_, _, _, q⟩ := hs
    exact False.elim q
end L2
namespace L2
open PySem PySem.Spec PyProof.Rows
section
variable {X : Cx} {x : Str} {p pos : Pos} {e : Expr} {es : List Expr} {t : TA} {id T : String} {r : List V → Hp → VK → Prop}
def tCB (r : List V → Hp → VK → Prop) (t : TA) : TE := fun σ H Q => t σ H fun vs H1 => r vs H1 Q
theorem pe_callB (hc : CallR X (.builtin id) r) (hg : Gl X x) (hm : X.mg x = none) (hv : bootBuiltins x = some (.builtin id)) (ha : PA X (e :: es) t) (hn : x ≠ "__name__" := by decide) (hdb : (x == ("__debug__" : Str)) = false := by decide)
    (he : starEach (e :: es) X.env = (false, eval e X.env) :: starEach es X.env := by rfl) (hpl : (backTo pos (starEach es X.env)).any (·.1) = false := by rfl) : PE X (.Call (.Name x p) (e :: es) [] pos) (tCB r t) := by
  intro pins s σ H Q I h
  refine wpAny_Call_Name_kw (ld_blt I hg hm hv ?_ hn hdb)
  exact PyProof.Rows.callWith_builtin1 (thn (ha pos pins s σ H _ I h) fun us s1 ⟨vs, H1, I1, r1, q1⟩ => hc pins s1 σ H1 vs us Q I1 r1 q1) he hpl
theorem pe_callTy (hc : CallR X (.type T) r) (hg : Gl X x) (hm : X.mg x = none) (hv : bootBuiltins x = some (.type T)) (ha : PA X (e :: es) t) (hn : x ≠ "__name__" := by decide) (hdb : (x == ("__debug__" : Str)) = false := by decide)
    (he : starEach (e :: es) X.env = (false, eval e X.env) :: starEach es X.env := by rfl) (hpl : (backTo pos (starEach es X.env)).any (·.1) = false := by rfl) : PE X (.Call (.Name x p) (e :: es) [] pos) (tCB r t) := by
  intro pins s σ H Q I h
  refine wpAny_Call_Name_kw (ld_blt I hg hm hv ?_ hn hdb)
  exact PyProof.Rows.callWith_type1 (thn (ha pos pins s σ H _ I h) fun us s1 ⟨vs, H1, I1, r1, q1⟩ => hc pins s1 σ H1 vs us Q I1 r1 q1) he hpl
end
end L2
namespace HT
open PySem PyProof.Rows
def lexLt : List Int → List Int → Bool
  | [], [] => false
  | [], _ :: _ => true
  | _ :: _, [] => false
  | x :: xs, y :: ys => if x = y then lexLt xs ys else decide (x < y)
section
open PySem.SeqAt
open PySem.AutoSeq1 (wpAny_loadPart')
open PySem.MeetsSeq PySem.MeetsSeq2 PySem.MeetsSeq3
end
section
variable {prog : Program} {w : World} {A : Around} {E : Value → Shared → Prop} {s : Shared}
theorem cat_tup {t b : Addr} {vs ws : List Value} {Q : Value → Shared → Prop} (ht : IsTup s.heap t vs.toArray) (hb : IsTup s.heap b ws.toArray) (hv : vs ≠ [])
    (h1 : ws = [] → Q (.ref t) s) (h2 : ws ≠ [] → Q (.ref s.heap.objs.size) { s with heap := s.heap.push { cls := .type "tuple", data := .seq (vs ++ ws).toArray } })
    (hsz : vs.length + ws.length ≤ sizeLine) : wpAny (model prog w) A (binaryOp .Add (.ref t) (.ref b)) Q E s := by
  obtain ⟨⟨cls, dd, data, sl⟩, ho, hc, n, hd⟩ := id ht
  obtain ⟨⟨cls2, dd2, data2, sl2⟩, ho2, hc2, n2, hd2⟩ := id hb
  simp only at hc hd hc2 hd2
  subst hc hd hc2 hd2
  have e : vs.toArray ++ ws.toArray = (vs ++ ws).toArray := by simp
  by_cases hw : ws = []
  · exact concat_meets ⟨_, ho, rfl⟩ ⟨_, ho2, rfl⟩ noFill_tuple_add seq_tuple_add PySem.F.slot_tuple_add PySem.F.entry_tuple_add (PySem.F.args_tuple_add_2 _ _)
      (tuple_addW1 t b vs.toArray ws.toArray n n2 dd dd2 sl sl2 (by simpa using hv) (by simp [hw])) ⟨ho, ho2, h1 hw⟩
  · refine concat_meets ⟨_, ho, rfl⟩ ⟨_, ho2, rfl⟩ noFill_tuple_add seq_tuple_add PySem.F.slot_tuple_add PySem.F.entry_tuple_add (PySem.F.args_tuple_add_2 _ _)
      (tuple_addW2 t b vs.toArray ws.toArray n n2 dd dd2 sl sl2 (by simpa using hv) (by simpa using hw) (by rw [List.size_toArray, List.size_toArray]; exact hsz)) ⟨ho, ho2, ?_⟩
    rw [e]
    exact h2 hw
def sIx (n d : Nat) : Option Int → Nat
  | none => d
  | some v => if v < 0 then (v + (n : Int)).toNat else min v.toNat n
theorem sIx_none (n d : Nat) : sIx n d none = d := rfl
theorem sIx_nat (n d k : Nat) : sIx n d (some (k : Int)) = min k n := by
  show (if (k : Int) < 0 then ((k : Int) + (n : Int)).toNat else min (k : Int).toNat n) = min k n
  rw [if_neg (by omega), Int.toNat_natCast]
theorem sIx_le (n d : Nat) (hd : d ≤ n) (o : Option Int) : sIx n d o ≤ n := by
  cases o with
  | none => exact hd
  | some v =>
    show (if v < 0 then (v + (n : Int)).toNat else min v.toNat n) ≤ n
    by_cases hv : v < 0
    · rw [if_pos hv]; omega
    · rw [if_neg hv]; exact Nat.min_le_right _ _
theorem clip_eq (v : Int) (n d : Nat) : (if v < 0 then max (v + (n : Int)) 0 else min v (n : Int)) = ((sIx n d (some v) : Nat) : Int) := by
  show (if v < 0 then max (v + (n : Int)) 0 else min v (n : Int)) = (((if v < 0 then (v + (n : Int)).toNat else min v.toNat n) : Nat) : Int)
  by_cases hv : v < 0
  · simp only [if_pos hv]; omega
  · simp only [if_neg hv]; omega
theorem adjust_gen (lo hi : Option Int) (n : Nat) : Builtin.Slice.sliceAdjust lo hi 1 (n : Int) = (((sIx n 0 lo : Nat) : Int), ((sIx n n hi : Nat) : Int)) := by
  have h1 : ¬ ((1 : Int) < 0) := by omega
  unfold Builtin.Slice.sliceAdjust
  simp only [h1, if_false]
  refine Prod.ext ?_ ?_
  · cases lo with
    | none => rfl
    | some v => exact clip_eq v n 0
  · cases hi with
    | none => rfl
    | some v => exact clip_eq v n n
theorem places_gen (i j : Nat) : Builtin.Slice.slicePlaces (i : Int) (j : Int) 1 = j - i := by
  unfold Builtin.Slice.slicePlaces
  have h1 : (1 : Int) > 0 := by omega
  simp only [h1, if_true, Int.ediv_one]
  split <;> omega
theorem slicePart_ {v : Value} {o : Option Int} {Q : Option Int → Shared → Prop} (p : IsPart v o) (h : Q o s) : wpAny (model prog w) A (Builtin.Slice.slicePartIndex v) Q E s := by
  cases p with
  | none => exact slicePart_none h
  | int i t => exact slicePart_int h
theorem sliceApplied_gen {sl : Addr} {vl vu : Value} {lo hi : Option Int} {n : Nat} {Q : Int × Int × Nat → Shared → Prop} (hs : s.heap.IsSliceOf sl vl vu .none) (pl : IsPart vl lo) (pu : IsPart vu hi)
    (h : Q (((sIx n 0 lo : Nat) : Int), 1, sIx n n hi - sIx n 0 lo) s) : wpAny (model prog w) A (Builtin.Slice.sliceApplied (.ref sl) (pure (n : Int))) Q E s := by
  obtain ⟨os, hos, hcs, hds⟩ := id hs
  unfold Builtin.Slice.sliceApplied Builtin.Slice.sliceFields
  refine wpAny_bind (wpAny_bind (wpAny_field hos hds (x := vl) rfl (wpAny_bind (wpAny_field hos hds (x := vu) rfl (wpAny_bind (wpAny_field hos hds (x := .none) rfl (wpAny_pure ?_)))))))
  refine wpAny_bind (slicePart_none ?_)
  show wpAny _ _ (if ((1 : Int) == 0) = true then _ else _) _ _ s
  rw [if_neg (by decide)]
  refine wpAny_bind (slicePart_ pl (wpAny_bind (slicePart_ pu (wpAny_bind (wpAny_pure ?_)))))
  show wpAny _ _ (match Builtin.Slice.sliceAdjust lo hi 1 (n : Int) with | (lo, hi) => pure (lo, (1 : Int), Builtin.Slice.slicePlaces lo hi 1)) _ _ s
  rw [adjust_gen lo hi n]
  show wpAny _ _ (pure (((sIx n 0 lo : Nat) : Int), (1 : Int), Builtin.Slice.slicePlaces ((sIx n 0 lo : Nat) : Int) ((sIx n n hi : Nat) : Int) 1)) _ _ s
  rw [places_gen]
  exact wpAny_pure h
theorem pick_gen (xs : Array Value) (i k : Nat) : ((List.range k).filterMap fun (m : Nat) => xs[((i : Int) + (m : Int) * 1).toNat]?).toArray = ((xs.toList.drop i).take k).toArray := by
  have e : (fun (m : Nat) => xs[((i : Int) + (m : Int) * 1).toNat]?) = fun m => xs[i + m]? := by
    funext m
    have : ((i : Int) + (m : Int) * 1).toNat = i + m := by omega
    rw [this]
  rw [e]
  have := pick_run xs i k
  rw [List.filterMap_map] at this
  have e2 : ((fun x => xs[x]?) ∘ fun x => i + x) = fun m => xs[i + m]? := rfl
  rw [e2] at this
  rw [this]
theorem getItem_tuple_cut {t sl : Addr} {items : Array Value} {vl vu : Value} {lo hi : Option Int} {Q : Value → Shared → Prop} (ht : IsTup s.heap t items) (hs : s.heap.IsSliceOf sl vl vu .none) (pl : IsPart vl lo) (pu : IsPart vu hi)
    (hw : ¬ (sIx items.size 0 lo = 0 ∧ sIx items.size items.size hi = items.size))
    (h : Q (.ref s.heap.objs.size) { s with heap := s.heap.push { cls := .type "tuple", data := .seq ((items.toList.drop (sIx items.size 0 lo)).take (sIx items.size items.size hi - sIx items.size 0 lo)).toArray } })
    (hsz : items.size ≤ sizeLine) : wpAny (model prog w) A (getItem (.ref t) (.ref sl)) Q E s := by
  have htake : sizeOk (.seq ((items.toList.drop (sIx items.size 0 lo)).take (sIx items.size items.size hi - sIx items.size 0 lo)).toArray) := by
    show ((items.toList.drop (sIx items.size 0 lo)).take (sIx items.size items.size hi - sIx items.size 0 lo)).toArray.size ≤ sizeLine
    rw [List.size_toArray, List.length_take, List.length_drop, Array.length_toList]
    omega
  have hj : sIx items.size items.size hi ≤ items.size := sIx_le _ _ (Nat.le_refl _) hi
  obtain ⟨os, hos, hcs, hds⟩ := id hs
  have hTs : s.TypeIs (.ref sl) "slice" := ⟨os, hos, hcs⟩
  unfold getItem
  try with_reducible refine wpAny_holding ?_
  first | refine wpAny_bind (wpAny_pure ?_) | skip
  refine wpAny_bind (wpAny_sequenceKey ht.typeIs (by decide) ?_)
  refine wpAny_bind (wpAny_callSpecial?_slot (name := Str.ofString "__getitem__") ht.typeIs PyProof.Rows.slot_tuple_getitem
    (wpAny_call_entry PyProof.Rows.slot_tuple_getitem ht.typeIs entry_tuple_getitem ?_ (args_tuple_getitem _ _)))
  show wpAny _ _ (Builtin.Tuple.tupleItemsOf (.ref t) >>= _) _ _ s
  refine wpAny_bind (tupleItemsOf_ ht ?_)
  refine wpAny_bind (wpAny_typeOf hTs ?_)
  rw [if_pos (by decide)]
  refine wpAny_bind (sliceApplied_gen hs pl pu ?_)
  have hno : ¬ ((((sIx items.size 0 lo : Nat) : Int) == 0 && (1 : Int) == 1 && (sIx items.size items.size hi - sIx items.size 0 lo) == items.size) = true) := by
    intro q
    rw [Bool.and_eq_true, Bool.and_eq_true] at q
    have q1 : ((sIx items.size 0 lo : Nat) : Int) = 0 := eq_of_beq q.1.1
    have q2 : sIx items.size items.size hi - sIx items.size 0 lo = items.size := eq_of_beq q.2
    exact hw ⟨by omega, by omega⟩
  show wpAny _ _ (if (((sIx items.size 0 lo : Nat) : Int) == 0 && (1 : Int) == 1 && (sIx items.size items.size hi - sIx items.size 0 lo) == items.size) = true then _ else _) _ _ s
  rw [if_neg hno, pick_gen]
  first
    | exact wpAny_bind (m := Builtin.Tuple.tupleExact _) (wpAny_newObj_type (wpAny_pure ⟨_, rfl, wpAny_pure h⟩) htake)
    | exact wpAny_bind (m := Builtin.Tuple.tupleExact _) (wpAny_newObj_type (wpAny_bind (wpAny_pure (wpAny_pure ⟨_, rfl, wpAny_pure h⟩))) htake)
    | exact wpAny_bind (wpAny_bind (m := Builtin.Tuple.tupleExact _) (wpAny_newObj_type (wpAny_pure (wpAny_pure ⟨_, rfl, wpAny_pure h⟩)) htake))
    | exact wpAny_bind (wpAny_bind (m := Builtin.Tuple.tupleExact _) (wpAny_newObj_type (wpAny_pure ⟨_, rfl, wpAny_pure h⟩) htake))
end
end HT
namespace L2
open PySem PySem.Spec PyProof.Rows
abbrev TO := St → Hp → (Option Int → Hp → Prop) → Prop
def PO (X : Cx) (e : Option Expr) (t : TO) : Prop :=
  ∀ (pins : List (Addr × Obj)) (s : Shared) (σ : St) (H : Hp) (Q : Option Int → Hp → Prop), Inv X pins σ H s → t σ H Q →
    wpAny (model X.prog X.w) X.A (evalPart e X.env) (fun u s' => ∃ o H', Inv X pins σ H' s' ∧ IsPart u o ∧ Q o H') X.xe s
def tNoPart : TO := fun _ H Q => Q none H
def tPart (t : TE) : TO := fun σ H Q => t σ H fun x H1 => ∃ i, x = .int i ∧ Q (some i) H1
section
variable {X : Cx} {e : Expr} {te : TE} {lo hi : Option Expr} {tl th : TO} {pos p2 : Pos}
theorem po_none : PO X none tNoPart := by
  intro pins s σ H Q I h
  rw [evalPart_none]
  exact wpAny_pure ⟨none, H, I, .none, h⟩
theorem po_some (h : PE X e te) : PO X (some e) (tPart te) := by
  intro pins s σ H Q I hw
  rw [evalPart_some]
  refine thn (h pins s σ H _ I hw) fun u s1 ⟨x, H1, I1, r1, q1⟩ => ?_
  obtain ⟨i, rfl, q⟩ := q1
  obtain ⟨t, rfl⟩ := r1
  exact ⟨some i, H1, I1, .int i t, q⟩
def SlR (X : Cx) (r : V → Option Int → Option Int → Hp → VK → Prop) : Prop :=
  ∀ (pins : List (Addr × Obj)) (s : Shared) (σ : St) (H : Hp) (x : V) (v vl vu : Value) (lo hi : Option Int) (sl : Addr) (Q : VK), Inv X pins σ H s → RelV x v → s.heap.IsSliceOf sl vl vu .none → IsPart vl lo → IsPart vu hi → r x lo hi H Q →
    ∃ T id, typeLookup (.type T) "__getitem__" = pure (some (.builtin id)) ∧ s.TypeIs v T ∧ wpAny (model X.prog X.w) X.A (getItem v (.ref sl)) (EP X pins σ Q) X.xe s
theorem SlR.or {r r' : V → Option Int → Option Int → Hp → VK → Prop} (h : SlR X r) (h' : SlR X r') : SlR X (fun x lo hi H Q => r x lo hi H Q ∨ r' x lo hi H Q) := by
  intro pins s σ H x v vl vu lo hi sl Q I rx hs pl pu q
  rcases q with q | q
  · exact h pins s σ H x v vl vu lo hi sl Q I rx hs pl pu q
  · exact h' pins s σ H x v vl vu lo hi sl Q I rx hs pl pu q
def tSl (r : V → Option Int → Option Int → Hp → VK → Prop) (te : TE) (tl th : TO) : TE := fun σ H Q => te σ H fun x H1 => tl σ H1 fun l H2 => th σ H2 fun u H3 => r x l u H3 Q
theorem pe_slice {r : V → Option Int → Option Int → Hp → VK → Prop} (hr : SlR X r) (he : PE X e te) (hl : PO X lo tl) (hu : PO X hi th) : PE X (.Subscript e (.Slice lo hi none p2) pos) (tSl r te tl th) := by
  intro pins s σ H Q I h
  refine Subscript_ (thn (he pins s σ H _ I h) fun v s1 ⟨x, H1, I1, r1, q1⟩ => ?_)
  refine wpAny_Slice (thn (hl pins s1 σ H1 _ I1 q1) fun vl s2 ⟨l, H2, I2, pl, q2⟩ => thn (hu pins s2 σ H2 _ I2 q2) fun vu s3 ⟨u, H3, I3, pu, q3⟩ => ?_)
  rw [evalPart_none]
  refine wpAny_pure ?_
  have I4 : Inv X pins σ H3 { s3 with heap := s3.heap.push { cls := .type "slice", data := .fields #[vl, vu, .none] } } := I3.kept (t' := s3.toks) fun b ob q => Heap.get?_push_of_some _ q
  obtain ⟨T, id, hT, ht, hg⟩ := hr pins { s3 with heap := s3.heap.push { cls := .type "slice", data := .fields #[vl, vu, .none] } } σ H3 x v vl vu l u s3.heap.objs.size Q I4 r1 (Heap.IsSliceOf.new ..) pl pu q3
  show wpAny (model X.prog X.w) X.A (subscriptTail e (.Slice lo hi none p2) v (.ref s3.heap.objs.size)) (EP X pins σ Q) X.xe { s3 with heap := s3.heap.push { cls := .type "slice", data := .fields #[vl, vu, .none] } }
  exact tail_any (ops := [.ref s3.heap.objs.size, v]) ht hT hg (by with_unfolding_all rfl)
def cutV (xs : List V) (lo hi : Option Int) : List V := (xs.drop (HT.sIx xs.length 0 lo)).take (HT.sIx xs.length xs.length hi - HT.sIx xs.length 0 lo)
theorem cutV_length (xs : List V) (lo hi : Option Int) : (cutV xs lo hi).length ≤ xs.length := by
  unfold cutV
  rw [List.length_take, List.length_drop]
  omega
def rSlT (K : PySem.W.Frag) : V → Option Int → Option Int → Hp → VK → Prop := fun x lo hi H Q => ∃ a xs, x = .ref a ∧ SqT K H a xs ∧
  ¬ (HT.sIx xs.length 0 lo = 0 ∧ HT.sIx xs.length xs.length hi = xs.length) ∧ ∀ p, H p = none → Q (.ref p) (upd H p (.tup (cutV xs lo hi)))
theorem sl_tup : SlR X (rSlT X.K) := by
  intro pins s σ H x v vl vu lo hi sl Q I rx hs pl pu h
  obtain ⟨a, xs, rfl, hx, hw, q⟩ := h
  cases rx
  obtain ⟨its, r, ht, hz⟩ := I.tuple hx
  have hlen : its.toArray.size = xs.length := by rw [List.size_toArray]; exact r.length.symm
  refine ⟨"tuple", _, PyProof.Rows.slot_tuple_getitem.lookup, ht.typeIs, ?_⟩
  refine HT.getItem_tuple_cut ht hs pl pu (by rw [hlen]; exact hw) ?_ (by rw [hlen]; exact hz)
  rw [hlen]
  refine ⟨.ref s.heap.objs.size, _, I.laid (t' := s.toks) (o := .tup (cutV xs lo hi)) (fun b ob q => Heap.get?_push_of_some _ q) (Nat.le_refl _) ?_, rfl, q _ (I.hok.fresh (Nat.le_refl _))⟩
  exact ⟨Nat.le_trans (cutV_length xs lo hi) hz, _, (r.drop (HT.sIx xs.length 0 lo)).take (HT.sIx xs.length xs.length hi - HT.sIx xs.length 0 lo), IsTupN.new _ _⟩
def rLtT (K : PySem.W.Frag) : R2 := fun x y H Q => ∃ a b ns ms, x = .ref a ∧ y = .ref b ∧ SqT K H a (ns.map V.int) ∧ SqT K H b (ms.map V.int) ∧ Q (.bl (HT.lexLt ns ms)) H
def rCatT (K : PySem.W.Frag) : R2 := fun x y H Q => ∃ a b xs ys, x = .ref a ∧ y = .ref b ∧ SqT K H a xs ∧ SqT K H b ys ∧ xs ≠ [] ∧ xs.length + ys.length ≤ sizeLine ∧
  (ys = [] → Q (.ref a) H) ∧ (ys ≠ [] → ∀ p, H p = none → Q (.ref p) (upd H p (.tup (xs ++ ys))))
theorem Vals.nil_iff {xs : List V} {us : List Value} (r : Vals xs us) : us = [] ↔ xs = [] := by
  cases r with
  | nil => simp
  | cons _ _ => simp
theorem op_catT : OpR X (binaryOp .Add) (rCatT X.K) := by
  intro pins s σ H x y v u Q I rx ry h
  obtain ⟨a, b, xs, ys, rfl, rfl, ha, hb, hx, hz, q1, q2⟩ := h
  cases rx
  cases ry
  obtain ⟨its, r1, p1, _⟩ := I.tuple ha
  obtain ⟨its2, r2, p2, _⟩ := I.tuple hb
  refine HT.cat_tup p1 p2 (fun z => hx (r1.nil_iff.mp z)) (fun z => ⟨.ref a, H, I, rfl, q1 (r2.nil_iff.mp z)⟩) (fun z => ?_) (by rw [← r1.length, ← r2.length]; exact hz)
  refine ⟨.ref s.heap.objs.size, _, I.laid (t' := s.toks) (o := .tup (xs ++ ys)) (fun b ob q => Heap.get?_push_of_some _ q) (Nat.le_refl _) ?_, rfl, q2 (fun w => z (r2.nil_iff.mpr w)) _ (I.hok.fresh (Nat.le_refl _))⟩
  exact ⟨by rw [List.length_append]; exact hz, _, r1.append r2, IsTupN.new _ _⟩
end
end L2
namespace L2
open PySem PySem.Spec PyProof.Rows
def ixN (n : Nat) (i : Int) : Option Nat := if 0 ≤ i then (if i < n then some i.toNat else none) else if -(n : Int) ≤ i then some (i + n).toNat else none
def atI {α : Type} (xs : List α) (i : Int) : Option α := (ixN xs.length i).bind fun j => xs[j]?
theorem ixN_seq {n : Nat} {i : Int} {j : Nat} (h : ixN n i = some j) : seqIndex? i n = some j ∧ j < n ∧ -(n : Int) ≤ i ∧ i < n := by
  unfold ixN at h
  by_cases h0 : 0 ≤ i
  · rw [if_pos h0] at h
    by_cases h1 : i < n
    · rw [if_pos h1] at h
      have e : i.toNat = j := Option.some.inj h
      exact ⟨by rw [seqIndex_of h0 h1, e], by omega, by omega, h1⟩
    · rw [if_neg h1] at h; cases h
  · rw [if_neg h0] at h
    by_cases h1 : -(n : Int) ≤ i
    · rw [if_pos h1] at h
      have e : (i + n).toNat = j := Option.some.inj h
      exact ⟨by rw [seqIndex_neg (by omega) h1, e], by omega, h1, by omega⟩
    · rw [if_neg h1] at h; cases h
theorem atI_get {α : Type} {xs : List α} {i : Int} {v : α} (h : atI xs i = some v) : ∃ j, seqIndex? i xs.length = some j ∧ xs[j]? = some v ∧ j < xs.length ∧ -(xs.length : Int) ≤ i ∧ i < xs.length := by
  unfold atI at h
  cases e : ixN xs.length i with
  | none => rw [e] at h; cases h
  | some j =>
    rw [e] at h
    obtain ⟨h1, h2, h3, h4⟩ := ixN_seq e
    exact ⟨j, h1, h, h2, h3, h4⟩
theorem atI_nat {α : Type} {xs : List α} {j : Nat} {v : α} (h : xs[j]? = some v) : atI xs (j : Int) = some v := by
  have hj : j < xs.length := (List.getElem?_eq_some_iff.mp h).1
  have e : ixN xs.length (j : Int) = some j := by
    unfold ixN
    rw [if_pos (by omega), if_pos (by omega)]; simp
  unfold atI; rw [e]; exact h
def PlainIx (b : Expr) : Prop := ∀ o i, subscripted b false o i = operate [o, i] (getItem o i)
def IxR (X : Cx) (r : R2) : Prop :=
  ∀ (value slice : Expr) (pins : List (Addr × Obj)) (s : Shared) (σ : St) (H : Hp) (x y : V) (v u : Value) (Q : VK), Inv X pins σ H s → RelV x v → RelV y u → r x y H Q →
    subscripted slice false v u = operate [v, u] (getItem v u) → wpAny (model X.prog X.w) X.A (subscriptTail value slice v u) (EP X pins σ Q) X.xe s
def MtR (X : Cx) (id : String) (r : V → List V → Hp → VK → Prop) : Prop :=
  ∀ (pins : List (Addr × Obj)) (s : Shared) (σ : St) (H : Hp) (x : V) (xs : List V) (v : Value) (us : List Value) (Q : VK), Inv X pins σ H s → RelV x v → Vals xs us → r x xs H Q →
    wpAny (model X.prog X.w) X.A (call (.builtin id) (v :: us)) (EP X pins σ Q) X.xe s
section
variable {X : Cx} {a b : Expr} {ta tb : TE} {pos : Pos}
theorem IxR.or {r r' : R2} (h : IxR X r) (h' : IxR X r') : IxR X (fun x y H Q => r x y H Q ∨ r' x y H Q) := by
  intro value slice pins s σ H x y v u Q I rx ry q hs
  rcases q with q | q
  · exact h value slice pins s σ H x y v u Q I rx ry q hs
  · exact h' value slice pins s σ H x y v u Q I rx ry q hs
theorem MtR.or {id : String} {r r' : V → List V → Hp → VK → Prop} (h : MtR X id r) (h' : MtR X id r') : MtR X id (fun x xs H Q => r x xs H Q ∨ r' x xs H Q) := by
  intro pins s σ H x xs v us Q I rx rs q
  rcases q with q | q
  · exact h pins s σ H x xs v us Q I rx rs q
  · exact h' pins s σ H x xs v us Q I rx rs q
theorem pe_ix {r : R2} (hr : IxR X r) (ha : PE X a ta) (hb : PE X b tb) (hs : PlainIx b) : PE X (.Subscript a b pos) (tOp r ta tb) := by
  intro pins s σ H Q I h
  exact Subscript_ (binT ha hb I h fun v u s2 x y H2 I2 rx ry q => hr a b pins s2 σ H2 x y v u Q I2 rx ry q (hs _ _))
def rIxL (K : PySem.W.Frag) : R2 := fun x y H Q => ∃ p xs i v, x = .ref p ∧ y = .int i ∧ SqL K H p xs ∧ atI xs i = some v ∧ Q v H
def rIxT (K : PySem.W.Frag) : R2 := fun x y H Q => ∃ p xs i v, x = .ref p ∧ y = .int i ∧ SqT K H p xs ∧ atI xs i = some v ∧ Q v H
def rIxS : R2 := fun x y H Q => ∃ z i c, x = .str z ∧ y = .int i ∧ z.length ≤ sizeLine ∧ atI z.cps.toList i = some c ∧ Q (.str ⟨#[c]⟩) H
theorem ix_list : IxR X (rIxL X.K) := by
  intro value slice pins s σ H x y v u Q I rx ry h hs
  obtain ⟨p, xs, i, z, rfl, rfl, hq, he, q⟩ := h
  cases rx
  obtain ⟨t, rfl⟩ := ry
  obtain ⟨its, r, pl, hz⟩ := I.list hq
  obtain ⟨j, h1, h2, h3, h4, h5⟩ := atI_get he
  obtain ⟨w, ew, rw'⟩ := r.get h2
  have hl := r.length
  have hn := line63
  have fin : EP X pins σ Q w s := ⟨z, H, I, rw', q⟩
  by_cases h0 : 0 ≤ i
  · have hj : i.toNat = j := by
      rw [seqIndex_of h0 h5] at h1
      exact Option.some.inj h1
    exact item_listR pl.isList h0 (by omega) (by rw [hj]; simpa using ew) fin hs
  · have hj : (i + (its.toArray.size : Int)).toNat = j := by
      rw [seqIndex_neg (by omega) h4] at h1
      rw [List.size_toArray, ← hl]
      exact Option.some.inj h1
    exact subscriptTail_builtinR (x := w) pl.isList.typeIs slot_list_getitem.lookup
      (wpAny_getItem_list_neg (Q := fun r s' => r = w ∧ EP X pins σ Q r s') pl.isList (by omega) (by rw [List.size_toArray] <;> omega) (by omega) (by rw [hj]; simpa using ew) ⟨rfl, fin⟩) hs
theorem ix_tup : IxR X (rIxT X.K) := by
  intro value slice pins s σ H x y v u Q I rx ry h hs
  obtain ⟨p, xs, i, z, rfl, rfl, hq, he, q⟩ := h
  cases rx
  obtain ⟨t, rfl⟩ := ry
  obtain ⟨its, r, pl, hz⟩ := I.tuple hq
  obtain ⟨j, h1, h2, h3, h4, h5⟩ := atI_get he
  obtain ⟨w, ew, rw'⟩ := r.get h2
  have hl := r.length
  have hn := line63
  have fin : EP X pins σ Q w s := ⟨z, H, I, rw', q⟩
  exact subscriptTail_builtinR (x := w) pl.typeIs slot_tuple_getitem.lookup
    (getItem_tuple (j := j) (Q := fun r s' => r = w ∧ EP X pins σ Q r s') pl (by omega) (by omega) (by rw [List.size_toArray, ← hl]; exact h1) (by simpa using ew) ⟨rfl, fin⟩) hs
theorem ix_str : IxR X rIxS := by
  intro value slice pins s σ H x y v u Q I rx ry h hs
  obtain ⟨z, i, c, rfl, rfl, hz, he, q⟩ := h
  obtain ⟨t, rfl⟩ := rx
  obtain ⟨t', rfl⟩ := ry
  obtain ⟨j, h1, h2, h3, h4, h5⟩ := atI_get he
  have hl : z.cps.toList.length = z.length := by simp [Str.length]
  rw [hl] at h1 h4 h5
  have hn := line63
  exact tail_any (typeIs_str s z t) slot_str_getitem.lookup (getItem_str (c := c) (by
    have e1 : decide (i < -(2 ^ 63 : Int)) = false := decide_eq_false (by omega)
    have e2 : decide (i ≥ 2 ^ 63) = false := decide_eq_false (by omega)
    rw [e1, e2, Bool.or_false]) (by rw [h1]; simpa using h2) ⟨.str ⟨#[c]⟩, H, I.tok _, ⟨_, rfl⟩, q⟩) hs
def rIx (K : PySem.W.Frag) : R2 := fun x y H Q => rIxL K x y H Q ∨ rIxT K x y H Q ∨ rIxS x y H Q
theorem ix_seq : IxR X (rIx X.K) := ix_list.or (ix_tup.or ix_str)
theorem mapSeq_set (its : List Value) (n j : Nat) (u : Value) : Obj.mapSeq (·.setIfInBounds j u) { cls := .type "list", data := .seq its.toArray n } = { cls := .type "list", data := .seq (its.set j u).toArray n } := by
  simp [Obj.mapSeq]
theorem Inv.lst {pins : List (Addr × Obj)} {σ : St} {H : Hp} {s : Shared} {p : Addr} {xs : List V} (I : Inv X pins σ H s) (h : H p = some (.lst xs)) :
    ∃ (its : List Value) (n : Nat), Vals xs its ∧ s.heap.get? p = some { cls := .type "list", data := .seq its.toArray n } ∧ xs.length ≤ sizeLine := by
  obtain ⟨z, its, n, r, e⟩ := I.hok p _ h
  exact ⟨its, n, r, e, z⟩
theorem Inv.lstUpd {pins : List (Addr × Obj)} {σ : St} {H : Hp} {s : Shared} {p : Addr} {xs ys : List V} {its its' : List Value} {n n' : Nat} {f : Obj → Obj} (I : Inv X pins σ H s) (h : H p = some (.lst xs))
    (ho : s.heap.get? p = some { cls := .type "list", data := .seq its.toArray n }) (hf : f { cls := .type "list", data := .seq its.toArray n } = { cls := .type "list", data := .seq its'.toArray n' }) (r : Vals ys its') (hz : ys.length ≤ sizeLine) (t : Nat) :
    Inv X pins σ (upd H p (.lst ys)) { s with heap := s.heap.update p f, toks := t } := by
  have e : (s.heap.update p f).get? p = some { cls := .type "list", data := .seq its'.toArray n' } := by
    rw [Heap.get?_update_self f ho (by rw [hf] <;> rfl), hf]
  refine I.write (x := p) (e := p) (by rw [h]; trivial) (.inl rfl) (fun b u hb q => (Heap.get?_update_other _ _ (Ne.symm hb)).trans q) ⟨_, e⟩ ?_
  exact ⟨hz, its', n', r, e⟩
def rSetL : V → V → V → Hp → (Hp → Prop) → Prop := fun o i v H Q => ∃ p xs k j, o = .ref p ∧ i = .int k ∧ H p = some (.lst xs) ∧ ixN xs.length k = some j ∧ Q (upd H p (.lst (xs.set j v)))
theorem set_list : PSet X rSetL := by
  intro pins s σ H o i v ov iv u Q I ro ri rv h
  obtain ⟨p, xs, k, j, rfl, rfl, hp, hj, q⟩ := h
  cases ro
  obtain ⟨t, rfl⟩ := ri
  obtain ⟨its, n, r, ho, hz⟩ := I.lst hp
  obtain ⟨h1, h2, h3, h4⟩ := ixN_seq hj
  have hl := r.length
  have hn := line63
  have I' : Inv X pins σ (upd H p (.lst (xs.set j v))) { s with heap := s.heap.update p (Obj.mapSeq (·.setIfInBounds j u)) } :=
    I.lstUpd hp ho (mapSeq_set its n j u) (r.set rv j) (by rw [List.length_set]; exact hz) s.toks
  by_cases h0 : 0 ≤ k
  · have hk : k.toNat = j := by
      rw [seqIndex_of h0 h4] at h1
      exact Option.some.inj h1
    exact PySem.W.ki_setAt ho h0 (by omega) (by rw [List.size_toArray, ← hl]; exact h4) (by rw [hk]; exact ⟨_, I', q⟩)
  · have hk : (k + (its.toArray.size : Int)).toNat = j := by
      rw [seqIndex_neg (by omega) h3] at h1
      rw [List.size_toArray, ← hl]
      exact Option.some.inj h1
    exact PySem.W.ki_setBack ho (by omega) (by rw [List.size_toArray, ← hl]; exact h3) (by omega) (by rw [hk]; exact ⟨_, I', q⟩)
theorem slice_bounds (lo hi : Option Int) (n : Nat) : (sliceBounds lo hi none n).1 = ((HT.sIx n 0 lo : Nat) : Int) ∧ (sliceBounds lo hi none n).2.1 = ((HT.sIx n n hi : Nat) : Int) ∧ (sliceBounds lo hi none n).2.2 = 1 := by
  refine ⟨?_, ?_, rfl⟩
  · cases lo with
    | none => simp [sliceBounds, HT.sIx]
    | some i =>
      simp only [sliceBounds, HT.sIx, Option.getD_none, show (1 : Int) > 0 by decide, if_true]
      by_cases h : i < 0
      · simp only [h, if_true] <;> omega
      · simp only [h, if_false] <;> omega
  · cases hi with
    | none => simp [sliceBounds, HT.sIx]
    | some i =>
      simp only [sliceBounds, HT.sIx, Option.getD_none, show (1 : Int) > 0 by decide, if_true]
      by_cases h : i < 0
      · simp only [h, if_true] <;> omega
      · simp only [h, if_false] <;> omega
theorem slicePick_cut (its : List Value) (lo hi : Option Int) : slicePick its.toArray lo hi none = ((its.drop (HT.sIx its.length 0 lo)).take (HT.sIx its.length its.length hi - HT.sIx its.length 0 lo)).toArray := by
  obtain ⟨h1, h2, h3⟩ := slice_bounds lo hi its.toArray.size
  unfold slicePick
  rw [h1, h2, h3]
  simp only [sliceRange_one, pick_run, List.size_toArray] <;> rfl
def rSlL (K : PySem.W.Frag) : V → Option Int → Option Int → Hp → VK → Prop := fun x lo hi H Q => ∃ a xs, x = .ref a ∧ SqL K H a xs ∧ ∀ p, H p = none → Q (.ref p) (upd H p (.lst (cutV xs lo hi)))
theorem sl_list : SlR X (rSlL X.K) := by
  intro pins s σ H x v vl vu lo hi sl Q I rx hs pl pu h
  obtain ⟨a, xs, rfl, hx, q⟩ := h
  cases rx
  obtain ⟨its, r, ht, hz⟩ := I.list hx
  have hlen := r.length
  refine ⟨"list", _, slot_list_getitem.lookup, ht.isList.typeIs, ?_⟩
  refine wpAny_getItem_list_slice ht.isList hs pl pu .none (by simp) ?_ (by rw [List.size_toArray] <;> omega)
  rw [slicePick_cut, ← hlen]
  refine ⟨.ref s.heap.objs.size, _, I.laid (t' := s.toks) (o := .lst (cutV xs lo hi)) (fun b ob q => Heap.get?_push_of_some _ q) (Nat.le_refl _) ?_, rfl, q _ (I.hok.fresh (Nat.le_refl _))⟩
  exact ⟨Nat.le_trans (cutV_length xs lo hi) hz, _, 0, (r.drop (HT.sIx xs.length 0 lo)).take (HT.sIx xs.length xs.length hi - HT.sIx xs.length 0 lo), Heap.get?_push_size _ rfl⟩
def flatV : V → Bool
  | .non => true
  | .bl _ => true
  | .int _ => true
  | .str _ => true
  | _ => false
def eqV : V → V → Bool
  | .non, .non => true
  | .bl a, .bl b => a == b
  | .bl a, .int b => (if a then 1 else 0) == b
  | .int a, .bl b => a == (if b then 1 else 0)
  | .int a, .int b => a == b
  | .str a, .str b => a == b
  | _, _ => false
theorem eqAt_V {A : Around} {s : Shared} {y x : V} {u v : Value} (ry : RelV y u) (rx : RelV x v) (fy : flatV y = true) (fx : flatV x = true) : SeqAt.EqAt A s u v (eqV y x) := by
  cases y with
  | non =>
    cases ry
    cases x with
    | non => cases rx; exact SeqAt.EqAt.same _
    | bl b => cases rx; exact SeqAt.EqAt.none_bool b
    | int b => obtain ⟨t, rfl⟩ := rx; exact SeqAt.EqAt.none_int b t
    | str b => obtain ⟨t, rfl⟩ := rx; exact SeqAt.EqAt.none_str b t
    | _ => exact absurd (show false = true from fx) Bool.false_ne_true
  | bl a =>
    cases ry
    cases x with
    | non => cases rx; exact SeqAt.EqAt.bool_none a
    | bl b => cases rx; exact SeqAt.EqAt.bool_bool a b
    | int b => obtain ⟨t, rfl⟩ := rx; exact SeqAt.EqAt.bool_int a b t
    | str b => obtain ⟨t, rfl⟩ := rx; exact SeqAt.EqAt.bool_str a b t
    | _ => exact absurd (show false = true from fx) Bool.false_ne_true
  | int a =>
    obtain ⟨t', rfl⟩ := ry
    cases x with
    | non => cases rx; exact SeqAt.EqAt.int_none a t'
    | bl b => cases rx; exact SeqAt.EqAt.int_bool a t' b
    | int b => obtain ⟨t, rfl⟩ := rx; exact SeqAt.EqAt.int_int a t' b t
    | str b => obtain ⟨t, rfl⟩ := rx; exact SeqAt.EqAt.int_str a t' b t
    | _ => exact absurd (show false = true from fx) Bool.false_ne_true
  | str a =>
    obtain ⟨t', rfl⟩ := ry
    cases x with
    | non => cases rx; exact SeqAt.EqAt.str_none a t'
    | bl b => cases rx; exact SeqAt.EqAt.str_bool a t' b
    | int b => obtain ⟨t, rfl⟩ := rx; exact SeqAt.EqAt.str_int a t' b t
    | str b => obtain ⟨t, rfl⟩ := rx; exact SeqAt.EqAt.str_str a t' b t
    | _ => exact absurd (show false = true from fx) Bool.false_ne_true
  | _ => exact absurd (show false = true from fy) Bool.false_ne_true
def eqU (x : V) (u : Value) : Bool := match u with
  | .none => eqV .non x
  | .bool b => eqV (.bl b) x
  | .int i _ => eqV (.int i) x
  | .str z _ => eqV (.str z) x
  | _ => false
theorem eqU_of {x y : V} {u : Value} (r : RelV y u) (f : flatV y = true) : eqU x u = eqV y x := by
  cases y with
  | non => cases r; rfl
  | bl b => cases r; rfl
  | int i => obtain ⟨t, rfl⟩ := r; rfl
  | str z => obtain ⟨t, rfl⟩ := r; rfl
  | _ => exact absurd (show false = true from f) Bool.false_ne_true
theorem mem_eqAt {A : Around} {s : Shared} {x : V} {v : Value} (rx : RelV x v) (fx : flatV x = true) : ∀ {xs : List V} {us : List Value}, Vals xs us → xs.all flatV = true → ∀ u ∈ us, SeqAt.EqAt A s u v (eqU x u)
  | _, _, .nil, _ => fun u hu => by cases hu
  | y :: xs, u :: us, .cons r t, f => fun u' hu => by
    rw [List.all_cons, Bool.and_eq_true] at f
    rcases List.mem_cons.mp hu with rfl | hu
    · rw [eqU_of r f.1]; exact eqAt_V r rx f.1 fx
    · exact mem_eqAt rx fx t f.2 u' hu
def inV (x : V) (xs : List V) : Bool := xs.any fun y => eqV y x
def rIn (K : PySem.W.Frag) (neg : Bool) : R2 := fun x y H Q => ∃ p xs, y = .ref p ∧ (SqL K H p xs ∨ SqT K H p xs) ∧ flatV x = true ∧ xs.all flatV = true ∧ Q (.bl (if neg then !inV x xs else inV x xs)) H
theorem call_len_seq : CallR X (.builtin "len") (fun xs H Q => ∃ p ys, xs = [.ref p] ∧ (SqL X.K H p ys ∨ SqT X.K H p ys) ∧ Q (.int ys.length) H) := by
  intro pins s σ H xs us Q I r h
  obtain ⟨p, ys, rfl, hq, q⟩ := h
  obtain ⟨u, rfl, rx⟩ := vals1 r
  cases rx
  have hn := line63
  rcases hq with hq | hq
  · obtain ⟨its, r', pl, hz⟩ := I.list hq
    have hlen := r'.length
    exact Calls.call_len_list pl.isList (by simp only [List.size_toArray] <;> omega) ⟨.int ys.length, H, I.tok _, ⟨s.toks + 1, by rw [List.size_toArray, hlen]⟩, q⟩
  · obtain ⟨its, r', pl, hz⟩ := I.tuple hq
    have hlen := r'.length
    exact len_tuple pl (by simp only [List.size_toArray] <;> omega) ⟨.int ys.length, H, I.tok _, ⟨s.toks + 1, by rw [List.size_toArray, hlen]⟩, q⟩
theorem call_len_str : CallR X (.builtin "len") (fun xs H Q => ∃ z, xs = [.str z] ∧ z.length ≤ sizeLine ∧ Q (.int z.length) H) := by
  intro pins s σ H xs us Q I r h
  obtain ⟨z, rfl, hz, q⟩ := h
  obtain ⟨u, rfl, t, rfl⟩ := vals1 r
  have hn := line63
  exact len_str (by omega) ⟨.int z.length, H, I.tok _, ⟨_, rfl⟩, q⟩
theorem CallR.or {f : Value} {r r' : List V → Hp → VK → Prop} (h : CallR X f r) (h' : CallR X f r') : CallR X f (fun xs H Q => r xs H Q ∨ r' xs H Q) := by
  intro pins s σ H xs us Q I rs q
  rcases q with q | q
  · exact h pins s σ H xs us Q I rs q
  · exact h' pins s σ H xs us Q I rs q
theorem call_list_of : CallR X (.type "list") (fun xs H Q => ∃ p ys, xs = [.ref p] ∧ (SqL X.K H p ys ∨ SqT X.K H p ys) ∧ ∀ l, H l = none → Q (.ref l) (upd H l (.lst ys))) := by
  intro pins s σ H xs us Q I r h
  obtain ⟨p, ys, rfl, hq, q⟩ := h
  obtain ⟨u, rfl, rx⟩ := vals1 r
  cases rx
  have fin : ∀ (its : List Value), Vals ys its → ys.length ≤ sizeLine → ∀ (h' : Heap) (c' : Nat), (∀ b o', s.heap.get? b = some o' → h'.get? b = some o') →
      h'.get? s.heap.objs.size = some { cls := .type "list", dict := none, data := .seq its.toArray c', slots := #[] } → EP X pins σ Q (.ref s.heap.objs.size) { s with heap := h' } := fun its r' hz h' c' kp e =>
    ⟨.ref s.heap.objs.size, _, I.laid (t' := s.toks) kp (Nat.le_refl _) (show ObjOk X.prog X.w _ h' _ (.lst ys) from ⟨hz, its, c', r', e⟩), rfl, q _ (I.hok.fresh (Nat.le_refl _))⟩
  rcases hq with hq | hq
  · obtain ⟨its, r', pl, hz⟩ := I.list hq
    have hlen := r'.length
    obtain ⟨o, ho, hc, n, hd⟩ := pl.isList
    exact call_list_seq p (.inl rfl) ho hc hd (fun h' c' kp e => fin its r' hz h' c' kp e) (by simp only [List.size_toArray] <;> omega)
  · obtain ⟨its, r', pl, hz⟩ := I.tuple hq
    have hlen := r'.length
    obtain ⟨o, ho, hc, n, hd⟩ := pl
    exact call_list_seq p (.inr rfl) ho hc hd (fun h' c' kp e => fin its r' hz h' c' kp e) (by simp only [List.size_toArray] <;> omega)
def tyV (K : PySem.W.Frag) (T : String) (x : V) (H : Hp) : Prop := match x with
  | .str _ => T = "str"
  | .int _ => T = "int"
  | .ref p => (T = "list" ∧ ∃ xs, SqL K H p xs) ∨ (T = "tuple" ∧ ∃ o, K.lookup p = some o ∧ o.cls = .type "tuple" ∧ o.dict = none) ∨
      (T = "dict" ∧ ((∃ kvs, H p = some (.dK kvs)) ∨ ∃ kvs, H p = some (.dT kvs))) ∨ (T = "set" ∧ ∃ S n, H p = some (.set S n))
  | _ => False
theorem tyV_is {pins : List (Addr × Obj)} {σ : St} {H : Hp} {s : Shared} {T : String} {x : V} {v : Value} (I : Inv X pins σ H s) (r : RelV x v) (ty : tyV X.K T x H) :
    s.TypeIs v T ∧ ∀ a, v = .ref a → ∃ ob, s.heap.get? a = some ob ∧ ob.dict = none := by
  cases x with
  | str z =>
    obtain ⟨t, rfl⟩ := r
    cases (show T = "str" from ty)
    exact ⟨typeIs_str s z t, fun _ e => nomatch e⟩
  | int i =>
    obtain ⟨t, rfl⟩ := r
    cases (show T = "int" from ty)
    exact ⟨typeIs_int s i t, fun _ e => nomatch e⟩
  | ref p =>
    cases r
    rcases ty with ⟨rfl, xs, hq⟩ | ⟨rfl, o, hk, hc, hd⟩ | ⟨rfl, hk⟩ | ⟨rfl, S, n, hk⟩
    · obtain ⟨its, _, pl, _⟩ := I.list hq
      refine ⟨pl.isList.typeIs, fun a e => ?_⟩
      cases e
      obtain ⟨o, n, e, c, hd, _⟩ := pl
      exact ⟨o, e, hd⟩
    · refine ⟨⟨o, I.kIn p o hk, hc⟩, fun a e => ?_⟩
      cases e
      exact ⟨o, I.kIn _ o hk, hd⟩
    · have z : ∃ o, s.heap.get? p = some o ∧ o.ExactDict := by
        rcases hk with ⟨kvs, hk⟩ | ⟨kvs, hk⟩
        · obtain ⟨_, _, _, _, o, _, _, e, ex, _⟩ := I.hok p _ hk
          exact ⟨o, e, ex⟩
        · obtain ⟨_, _, _, _, o, _, _, e, ex, _⟩ := I.hok p _ hk
          exact ⟨o, e, ex⟩
      obtain ⟨o, e, ex⟩ := z
      refine ⟨⟨o, e, ex.1⟩, fun a e2 => ?_⟩
      cases e2
      exact ⟨o, e, ex.2.1⟩
    · obtain ⟨o, _, _, _, e, ex, _⟩ := I.hok p _ hk
      refine ⟨⟨o, e, ex.1⟩, fun a e2 => ?_⟩
      cases e2
      exact ⟨o, e, ex.2.1⟩
  | _ => exact False.elim ty
def tBM0 (K : PySem.W.Frag) (T : String) (r : V → List V → Hp → VK → Prop) (to : TE) : TE := fun σ H Q => to σ H fun x H1 => tyV K T x H1 ∧ r x [] H1 Q
def tBM (K : PySem.W.Frag) (T : String) (r : V → List V → Hp → VK → Prop) (to : TE) (t : TA) : TE := fun σ H Q => to σ H fun x H1 => tyV K T x H1 ∧ t σ H1 fun xs H2 => r x xs H2 Q
variable {o e : Expr} {es : List Expr} {to : TE} {t : TA} {name : Str} {apos cpos : Pos} {T id : String} {r : V → List V → Hp → VK → Prop}
theorem pe_bm (pa : PlainAttrs T) (slot : Slot T name id) (hty : typeOf (.builtin id) = pure (.type "method_descriptor")) (hm : MtR X id r) (ho : PE X o to) (ha : PA X (e :: es) t)
    (hbase : attributeBase o name X.env (eval o X.env) = eval o X.env := by rfl)
    (hfew : ((backTo cpos (starEach (e :: es) X.env)).all (fun x => !x.1) && (backToKw cpos (keywordEach [] X.env)).all (fun x => x.1.isSome)
      && decide ((e :: es).length + ([] : List Keyword).length + (if ([] : List Keyword).isEmpty then 0 else 1) < 30)) = true := by rfl)
    (hline : (apos.endLine == cpos.line) = true := by rfl) (hs : starEach (e :: es) X.env = (false, eval e X.env) :: starEach es X.env := by rfl) (hplain : (backTo cpos (starEach es X.env)).any (·.1) = false := by rfl) :
    PE X (.Call (.Attribute o name apos) (e :: es) [] cpos) (tBM X.K T r to t) := by
  intro pins s σ H Q I h
  refine wpAny_Call_method_late hbase hfew hline rfl (thn (ho pins s σ H _ I h) fun v s1 ⟨x, H1, I1, r1, ty, q1⟩ => ?_)
  obtain ⟨h1, h2⟩ := tyV_is I1 r1 ty
  refine ⟨T, id, pa, slot, hty, h1, h2, ?_⟩
  have hA := ha cpos pins s1 σ H1 _ I1 q1
  rw [hs] at hA ⊢
  refine Calls.callWith_builtin (by show (false || (backTo cpos (starEach es X.env)).any (·.1)) = false; rw [hplain] <;> rfl) (Calls.evalArgs_plain ?_)
  exact thn hA fun us s2 ⟨vs, H2, I2, r2, q2⟩ => hm pins s2 σ H2 x vs v us Q I2 r1 r2 q2
end
end L2
namespace L2
open PySem PySem.Spec PyProof.Rows
def MtM (X : Cx) (id : String) (r : V → List V → Hp → VK → Prop) : Prop :=
  ∀ (pins : List (Addr × Obj)) (s : Shared) (σ : St) (H : Hp) (x : V) (xs : List V) (v : Value) (us : List Value) (Q : VK), Inv X pins σ H s → RelV x v → Vals xs us → r x xs H Q →
    wpAny (model X.prog X.w) X.A (call (.builtin id) (v :: us)) (EP X pins σ Q) X.xe s
theorem Vals.one : ∀ {x : V} {us : List Value}, Vals [x] us → ∃ u, us = [u] ∧ RelV x u
  | _, _, .cons r .nil => ⟨_, rfl, r⟩
theorem Vals.zero : ∀ {us : List Value}, Vals [] us → us = []
  | _, .nil => rfl
theorem Vals.dropLast {xs : List V} {us : List Value} (h : Vals xs us) : Vals xs.dropLast us.dropLast := by
  induction h with
  | nil => exact .nil
  | cons r t ih =>
    cases t with
    | nil => exact .nil
    | cons q t' => exact .cons r ih
theorem Vals.eraseIdx : ∀ {xs : List V} {us : List Value} (i : Nat), Vals xs us → Vals (xs.eraseIdx i) (us.eraseIdx i)
  | _, _, _, .nil => .nil
  | _, _, 0, .cons _ t => t
  | _, _, i + 1, .cons r t => .cons r (Vals.eraseIdx i t)
theorem Vals.reverse {xs : List V} {us : List Value} (h : Vals xs us) : Vals xs.reverse us.reverse := by
  induction h with
  | nil => exact .nil
  | cons r t ih => rw [List.reverse_cons, List.reverse_cons]; exact Vals.append ih (.cons r .nil)
theorem Vals.rep {xs : List V} {us : List Value} (h : Vals xs us) : ∀ k : Nat, Vals (List.replicate k xs).flatten (List.replicate k us).flatten
  | 0 => .nil
  | k + 1 => by
    rw [List.replicate_succ, List.replicate_succ, List.flatten_cons, List.flatten_cons]
    exact Vals.append h (Vals.rep h k)
theorem foldl_rep (its : List Value) : ∀ (k : Nat) (acc : List Value),
    List.foldl (fun x1 x2 => x1 ++ x2) acc.toArray (List.replicate k its.toArray) = (acc ++ (List.replicate k its).flatten).toArray
  | 0, acc => by simp
  | k + 1, acc => by
    have e : acc.toArray ++ its.toArray = (acc ++ its).toArray := by simp
    have e2 : (acc ++ its) ++ (List.replicate k its).flatten = acc ++ (List.replicate (k + 1) its).flatten := by
      rw [List.replicate_succ, List.flatten_cons, List.append_assoc]
    rw [← e2, ← foldl_rep its k (acc ++ its), ← e, List.replicate_succ, List.foldl_cons]
section
variable {X : Cx} {pins : List (Addr × Obj)} {σ : St} {H : Hp} {s : Shared} {l b : Addr} {xs ys zs : List V}
theorem Inv.lset {its its' : List Value} {n : Nat} {f : Array Value → Array Value} {t' : Nat} (I : Inv X pins σ H s) (hH : H l = some (.lst xs))
    (e : s.heap.get? l = some { cls := .type "list", data := .seq its.toArray n }) (hf : f its.toArray = its'.toArray) (hv : Vals ys its') (hz : ys.length ≤ sizeLine) :
    Inv X pins σ (upd H l (.lst ys)) { s with heap := s.heap.update l (Obj.mapSeq f), toks := t' } := by
  have q := PySem.IsL.update e f
  rw [hf] at q
  refine I.write (x := l) (e := l) (by rw [hH]; exact trivial) (.inl rfl) (fun b' u hb hu => (Heap.get?_update_other s.heap (Obj.mapSeq f) (Ne.symm hb)).trans hu) ⟨_, q⟩ ?_
  exact ⟨hz, its', _, hv, q⟩
theorem Inv.lnew {its : List Value} {t' : Nat} (I : Inv X pins σ H s) (hv : Vals ys its) (hz : ys.length ≤ sizeLine) :
    Inv X pins σ (upd H s.heap.objs.size (.lst ys)) { s with heap := s.heap.push { cls := .type "list", data := .seq its.toArray }, toks := t' } :=
  I.laid (fun _ _ q => Heap.get?_push_of_some _ q) (Nat.le_refl _) ⟨hz, its, 0, hv, Heap.get?_push_size _ rfl⟩
theorem Inv.fresh (I : Inv X pins σ H s) : H s.heap.objs.size = none := I.hok.fresh (Nat.le_refl _)
theorem Inv.lstM (I : Inv X pins σ H s) (hH : H l = some (.lst xs)) : xs.length ≤ sizeLine ∧ ∃ (its : List Value) (n : Nat), Vals xs its ∧ xs.length = its.length ∧ s.heap.get? l = some { cls := .type "list", data := .seq its.toArray n } := by
  obtain ⟨z, its, n, r, e⟩ := I.hok l _ hH
  exact ⟨z, its, n, r, r.length, e⟩
theorem notLongL {n : Nat} (h : n ≤ sizeLine) : Builtin.List.listTooLong n = false := by
  unfold Builtin.List.listTooLong
  exact decide_eq_false (by omega)
end
section
variable {X : Cx}
def rAppend : V → List V → Hp → VK → Prop := fun x vs H Q => ∃ l xs y, x = .ref l ∧ vs = [y] ∧ H l = some (.lst xs) ∧ xs.length < sizeLine ∧ Q .non (upd H l (.lst (xs ++ [y])))
theorem mt_append : MtM X "list.append" rAppend := by
  intro pins s σ H x vs v us Q I rx rv h
  obtain ⟨l, xs, y, rfl, rfl, hH, hz, q⟩ := h
  cases rx
  obtain ⟨u, rfl, ru⟩ := rv.one
  obtain ⟨z, its, n, r, hl, e⟩ := I.lstM hH
  refine call_meets F.slot_list_append ⟨_, e, rfl⟩ F.entry_list_append (F.args_list_append_2 _ _) (PySem.list_append l its.toArray n u (by rw [List.size_toArray]; omega)) ⟨e, ?_⟩
  refine ⟨.non, _, I.lset (its' := its ++ [u]) hH e (by simp) (r.append (.cons ru .nil)) ?_, rfl, q⟩
  rw [List.length_append, List.length_singleton]
  omega
def rExtend : V → List V → Hp → VK → Prop := fun x vs H Q => ∃ l b xs zs, x = .ref l ∧ vs = [.ref b] ∧ H l = some (.lst xs) ∧ H b = some (.lst zs) ∧ xs.length + zs.length ≤ sizeLine ∧ Q .non (upd H l (.lst (xs ++ zs)))
def rPop : V → List V → Hp → VK → Prop := fun x vs H Q => ∃ l xs y, x = .ref l ∧ vs = [] ∧ H l = some (.lst xs) ∧ xs[xs.length - 1]? = some y ∧ Q y (upd H l (.lst xs.dropLast))
def rPopAt : V → List V → Hp → VK → Prop := fun x vs H Q => ∃ l xs i k y, x = .ref l ∧ vs = [.int i] ∧ H l = some (.lst xs) ∧ -(2 ^ 63) ≤ i ∧ i < 2 ^ 63 ∧ seqIndex? i xs.length = some k ∧ xs[k]? = some y ∧ Q y (upd H l (.lst (xs.eraseIdx k)))
def rReverse : V → List V → Hp → VK → Prop := fun x vs H Q => ∃ l xs, x = .ref l ∧ vs = [] ∧ H l = some (.lst xs) ∧ Q .non (upd H l (.lst xs.reverse))
def rClear : V → List V → Hp → VK → Prop := fun x vs H Q => ∃ l xs, x = .ref l ∧ vs = [] ∧ H l = some (.lst xs) ∧ Q .non (upd H l (.lst []))
def rCat : R2 := fun x y H Q => ∃ l b xs zs, x = .ref l ∧ y = .ref b ∧ H l = some (.lst xs) ∧ H b = some (.lst zs) ∧ xs.length + zs.length ≤ sizeLine ∧ ∀ p, H p = none → Q (.ref p) (upd H p (.lst (xs ++ zs)))
theorem op_cat : OpR X (binaryOp .Add) rCat := by
  intro pins s σ H x y v u Q I rx ry h
  obtain ⟨l, b, xs, zs, rfl, rfl, hH, hB, hz, q⟩ := h
  cases rx
  cases ry
  obtain ⟨z, its, n, r, hl, e⟩ := I.lstM hH
  obtain ⟨z2, its2, n2, r2, hl2, e2⟩ := I.lstM hB
  refine PySem.P.add_list e e2 ?_ (by rw [List.size_toArray, List.size_toArray]; omega)
  have ea : its.toArray ++ its2.toArray = (its ++ its2).toArray := by simp
  rw [ea]
  exact ⟨.ref _, _, I.lnew (t' := s.toks) (r.append r2) (by rw [List.length_append]; omega), rfl, q _ I.fresh⟩
def rRep : R2 := fun x y H Q => ∃ l k xs, x = .ref l ∧ y = .int k ∧ H l = some (.lst xs) ∧ -(2 ^ 63) ≤ k ∧ k < 2 ^ 63 ∧ xs.length * k.toNat ≤ sizeLine ∧
  ∀ p, H p = none → Q (.ref p) (upd H p (.lst (List.replicate k.toNat xs).flatten))
theorem len_rep {α : Type} (xs : List α) (k : Nat) : (List.replicate k xs).flatten.length = k * xs.length := by
  induction k with
  | zero => simp
  | succ k ih => rw [List.replicate_succ, List.flatten_cons, List.length_append, ih, Nat.succ_mul, Nat.add_comm]
theorem op_rep : OpR X (binaryOp .Mult) rRep := by
  intro pins s σ H x y v u Q I rx ry h
  obtain ⟨l, k, xs, rfl, rfl, hH, h1, h2, hz, q⟩ := h
  cases rx
  obtain ⟨t, rfl⟩ := ry
  obtain ⟨z, its, n, r, hl, e⟩ := I.lstM hH
  have hlen : its.toArray.size * k.toNat ≤ sizeLine := by rw [List.size_toArray, ← hl]; exact hz
  have hcap : ¬ its.toArray.size * k.toNat > (2 ^ 63 - 1) / 8 := by
    have : (sizeLine : Nat) ≤ (2 ^ 63 - 1) / 8 := by decide
    omega
  have hfit : ¬ (!Builtin.List.listFitsIndex k) = true := by
    rw [fitsIndex_both h1 h2]
    exact Bool.false_ne_true
  have hlong : ¬ Builtin.List.listTooLong (its.toArray.size * k.toNat) = true := by
    rw [notLongL hlen]
    exact Bool.false_ne_true
  have hnew : List.foldl (fun x1 x2 => x1 ++ x2) #[] (List.replicate (if its.toArray.isEmpty = true then 0 else k.toNat) its.toArray) = (List.replicate k.toNat its).flatten.toArray := by
    have f0 : ∀ m : Nat, List.foldl (fun x1 x2 => x1 ++ x2) #[] (List.replicate m its.toArray) = (List.replicate m its).flatten.toArray := fun m => by
      have := foldl_rep its m []
      rw [List.nil_append] at this
      exact this
    rw [f0]
    cases its with
    | nil => simp
    | cons a r' => rw [if_neg (by simp)]
  refine wpAny_binaryOp_repeat_ref (T := "list") (U := "int") (by decide) ⟨_, e, rfl⟩ (fun s' => typeIs_int s' k t) noFill_list_mul F.fills_int_mul F.slot_int_rmul repeat_list F.slot_int_index.lookup
    (call_meets F.slot_int_rmul (typeIs_int s k t) F.entry_int_rmul (F.args_int_rmul_2 _ _) (int___rmul___int_list k t l its.toArray n)
      ⟨e, rfl, ⟨_, e, rfl⟩, call_meets F.slot_list_mul ⟨_, e, rfl⟩ F.entry_list_mul (F.args_list_mul_2 _ _) (AutoListH.list___mul___list_int_3 l its.toArray n k t hfit hcap hlong) ⟨e, ?_⟩⟩)
  rw [hnew]
  exact ⟨.ref _, _, I.lnew (t' := s.toks) (r.rep k.toNat) (by rw [len_rep, Nat.mul_comm]; exact hz), rfl, q _ I.fresh⟩
end
section
variable {prog : Program} {w : World} {A : Around} {E : Value → Shared → Prop} {s : Shared}
end
section
variable {X : Cx}
end
end L2
namespace L2
open PySem PySem.Spec PyProof.Rows
theorem Vals.ints : ∀ {ns : List Int} {us : List Value}, Vals (ns.map V.int) us → IntsAre us ns
  | [], us, h => by
    rw [List.map_nil] at h
    cases h
    exact IntsAre.nil
  | n :: ns, us, h => by
    rw [List.map_cons] at h
    cases h with
    | cons r t =>
      obtain ⟨k, rfl⟩ := r
      exact IntsAre.cons n k (Vals.ints t)
theorem Vals.strs : ∀ {xs : List Str} {us : List Value}, Vals (xs.map V.str) us → StrsAre us xs
  | [], us, h => by
    rw [List.map_nil] at h
    cases h
    exact StrsAre.nil
  | x :: xs, us, h => by
    rw [List.map_cons] at h
    cases h with
    | cons r t =>
      obtain ⟨k, rfl⟩ := r
      exact StrsAre.cons x k (Vals.strs t)
section
variable {prog : Program} {w : World} {A : Around} {E : Value → Shared → Prop} {s : Shared} {l : Addr} {its : List Value} {ns : List Int} {Q : Value → Shared → Prop}
end
section
variable {X : Cx}
def rSum (K : PySem.W.Frag) : List V → Hp → VK → Prop := fun vs H Q => ∃ (a : Addr) (ns : List Int), vs = [V.ref a] ∧ SqL K H a (ns.map V.int) ∧ Q (.int ns.sum) H
def rMax (K : PySem.W.Frag) : List V → Hp → VK → Prop := fun vs H Q => ∃ (a : Addr) (ns : List Int), vs = [V.ref a] ∧ SqL K H a (ns.map V.int) ∧ 0 < ns.length ∧ ∀ m, m ∈ ns → (∀ y, y ∈ ns → y ≤ m) → Q (.int m) H
def rMin (K : PySem.W.Frag) : List V → Hp → VK → Prop := fun vs H Q => ∃ (a : Addr) (ns : List Int), vs = [V.ref a] ∧ SqL K H a (ns.map V.int) ∧ 0 < ns.length ∧ ∀ m, m ∈ ns → (∀ y, y ∈ ns → m ≤ y) → Q (.int m) H
def rSorted (K : PySem.W.Frag) : List V → Hp → VK → Prop := fun vs H Q => ∃ (a : Addr) (ns : List Int), vs = [V.ref a] ∧ SqL K H a (ns.map V.int) ∧ ns.length < 64 ∧
  ∀ (ns' : List Int) (p : Addr), ns'.Perm ns → ns'.Pairwise (· ≤ ·) → H p = none → Q (.ref p) (upd H p (.lst (ns'.map V.int)))
def rSortedS (K : PySem.W.Frag) : List V → Hp → VK → Prop := fun vs H Q => ∃ (a : Addr) (xs : List Str), vs = [V.ref a] ∧ SqL K H a (xs.map V.str) ∧ xs.length < 64 ∧
  ∀ (ys : List Str) (p : Addr), ys.Perm xs → sortedS ys = true → H p = none → Q (.ref p) (upd H p (.lst (ys.map V.str)))
def rSort : V → List V → Hp → VK → Prop := fun x xs H Q => ∃ (a : Addr) (ns : List Int), x = V.ref a ∧ xs = [] ∧ H a = some (.lst (ns.map V.int)) ∧ ns.length < 64 ∧
  ∀ ns' : List Int, ns'.Perm ns → ns'.Pairwise (· ≤ ·) → Q .non (upd H a (.lst (ns'.map V.int)))
end
section
variable {X : Cx}
def rIndex (K : PySem.W.Frag) : V → List V → Hp → VK → Prop := fun x xs H Q => ∃ (a : Addr) (ys : List V) (y : V) (j : Nat) (z : V), x = V.ref a ∧ xs = [y] ∧ SqL K H a ys ∧ flatV y = true ∧ ys.all flatV = true ∧ ys[j]? = some z ∧ eqV z y = true ∧
  (∀ (m : Nat) (z' : V), m < j → ys[m]? = some z' → eqV z' y = false) ∧ Q (.int (j : Nat)) H
theorem flat_at {ys : List V} (f : ys.all flatV = true) {j : Nat} {z : V} (h : ys[j]? = some z) : flatV z = true := List.all_eq_true.mp f z (List.mem_of_getElem? h)
theorem mt_index : MtR X "list.index" (rIndex X.K) := by
  intro pins s σ H x xs v us Q I rx rxs h
  obtain ⟨a, ys, y, j, z, rfl, rfl, hs, fy, fys, hz, hzj, hno, q⟩ := h
  cases rx
  cases rxs with
  | cons ry rt =>
    rename_i uy ut
    cases rt
    obtain ⟨its, rv, ⟨⟨cls, dd, data, sl⟩, n, ho, hc, hdn, hd⟩, hlen⟩ := I.list hs
    simp only at hc hd
    subst hc hd
    obtain ⟨u, hu, ru⟩ := rv.get hz
    obtain ⟨hjl, hje⟩ := List.getElem?_eq_some_iff.mp hu
    have hvl := rv.length
    have hj : j < its.toArray.size := by simpa using hjl
    have hsl := sizeLine_eq
    refine call_meets PySem.F.slot_list_index ⟨_, ho, rfl⟩ PySem.F.entry_list_index (PySem.F.args_list_index_2 _ _)
      (SeqAt.list_indexAt a its.toArray n dd sl uy (eqU y) j hj (by omega) ?_ ?_) ⟨ho, fun u' hu' => mem_eqAt ry fy rv fys u' (by simpa using hu'), ?_⟩
    · have e1 : its.toArray[j] = u := by simpa using hje
      rw [e1, eqU_of ru (flat_at fys hz)]
      exact hzj
    · intro m hm hmj
      have hml : m < its.length := by simpa using hm
      have hmy : m < ys.length := by omega
      have hy' : ys[m]? = some ys[m] := List.getElem?_eq_getElem hmy
      obtain ⟨u2, hu2, ru2⟩ := rv.get hy'
      obtain ⟨_, hme⟩ := List.getElem?_eq_some_iff.mp hu2
      have e1 : its.toArray[m] = u2 := by simpa using hme
      rw [e1, eqU_of ru2 (flat_at fys hy')]
      exact hno m _ hmj hy'
    · exact ⟨.int (j : Nat), H, I.tok _, ⟨_, rfl⟩, q⟩
end
section
variable {X : Cx}
end
section
variable {X : Cx}
def rAny (K : PySem.W.Frag) : List V → Hp → VK → Prop := fun vs H Q => ∃ (a : Addr) (bs : List Bool), vs = [V.ref a] ∧ SqL K H a (bs.map V.bl) ∧ Q (.bl (bs.any id)) H
def rAll (K : PySem.W.Frag) : List V → Hp → VK → Prop := fun vs H Q => ∃ (a : Addr) (bs : List Bool), vs = [V.ref a] ∧ SqL K H a (bs.map V.bl) ∧ Q (.bl (bs.all id)) H
end
mutual
inductive Dp (K : PySem.W.Frag) (H : Hp) : V → PyData → Prop
  | non : Dp K H .non .none
  | bl (b : Bool) : Dp K H (.bl b) (.bool b)
  | int (i : Int) : Dp K H (.int i) (.int i)
  | str (x : Str) : Dp K H (.str x) (.str x)
  | lst {a : Addr} {xs : List V} {ds : List PyData} : SqL K H a xs → DpAll K H xs ds → Dp K H (.ref a) (.list ds)
  | tup {a : Addr} {xs : List V} {ds : List PyData} : SqT K H a xs → DpAll K H xs ds → Dp K H (.ref a) (.tuple ds)
inductive DpAll (K : PySem.W.Frag) (H : Hp) : List V → List PyData → Prop
  | nil : DpAll K H [] []
  | cons {v : V} {vs : List V} {d : PyData} {ds : List PyData} : Dp K H v d → DpAll K H vs ds → DpAll K H (v :: vs) (d :: ds)
end
section
variable {X : Cx} {pins : List (Addr × Obj)} {σ : St} {H : Hp} {s : Shared}
mutual
theorem Dp.reads (I : Inv X pins σ H s) : ∀ (d : PyData) (v : V) (u : Value), Dp X.K H v d → RelV v u → ∃ as, Reads s.heap u d as
  | .none, _, _, h, r => by
    cases h
    cases r
    exact ⟨_, Reads.none⟩
  | .bool b, _, _, h, r => by
    cases h
    cases r
    exact ⟨_, Reads.bool b⟩
  | .int i, _, _, h, r => by
    cases h
    obtain ⟨t, rfl⟩ := r
    exact ⟨_, Reads.int i t⟩
  | .str x, _, _, h, r => by
    cases h
    obtain ⟨t, rfl⟩ := r
    exact ⟨_, Reads.str x t⟩
  | .list ds, _, _, h, r => by
    cases h with
    | lst hs ha =>
      cases r
      obtain ⟨its, rv, ⟨o, n, ho, hc, _, hd⟩, _⟩ := I.list hs
      obtain ⟨as, hr⟩ := Dp.readsAll I ds _ its ha rv
      exact ⟨_, Reads.list ho hc hd hr⟩
  | .tuple ds, _, _, h, r => by
    cases h with
    | tup hs ha =>
      cases r
      obtain ⟨its, rv, ⟨o, ho, hc, n, hd⟩, _⟩ := I.tuple hs
      obtain ⟨as, hr⟩ := Dp.readsAll I ds _ its ha rv
      exact ⟨_, Reads.tuple ho hc hd hr⟩
  | .dict _, _, _, h, _ => by cases h
theorem Dp.readsAll (I : Inv X pins σ H s) : ∀ (ds : List PyData) (vs : List V) (us : List Value), DpAll X.K H vs ds → Vals vs us → ∃ as, ReadsAll s.heap us ds as
  | [], _, _, h, r => by
    cases h
    cases r
    exact ⟨_, ReadsAll.nil⟩
  | d :: ds, _, _, h, r => by
    cases h with
    | cons h1 h2 =>
      cases r with
      | cons r1 r2 =>
        obtain ⟨as, q1⟩ := Dp.reads I d _ _ h1 r1
        obtain ⟨bs, q2⟩ := Dp.readsAll I ds _ _ h2 r2
        exact ⟨_, ReadsAll.cons q1 q2⟩
end
end
section
variable {X : Cx}
def rEqD (K : PySem.W.Frag) : R2 := fun x y H Q => ∃ d e, Dp K H x d ∧ Dp K H y e ∧ SeqAt.shaped d = true ∧ SeqAt.shaped e = true ∧ Q (.bl (PyData.eqv d e)) H
def rNeD (K : PySem.W.Frag) : R2 := fun x y H Q => ∃ d e, Dp K H x d ∧ Dp K H y e ∧ SeqAt.shaped d = true ∧ SeqAt.shaped e = true ∧ Q (.bl (!PyData.eqv d e)) H
theorem op_eqD (hu : X.A.units + 64 < cLine) : OpR X (compareOp .Eq) (rEqD X.K) := by
  intro pins s σ H x y v u Q I rx ry h
  obtain ⟨d, e, hd, he, sd, se, q⟩ := h
  obtain ⟨as, r1⟩ := Dp.reads I d x v hd rx
  obtain ⟨bs, r2⟩ := Dp.reads I e y u he ry
  exact SeqAt.compareEq_shaped r1 r2 sd se hu ⟨.bl _, H, I, rfl, q⟩
theorem op_neD (hu : X.A.units + 64 < cLine) : OpR X (compareOp .NotEq) (rNeD X.K) := by
  intro pins s σ H x y v u Q I rx ry h
  obtain ⟨d, e, hd, he, sd, se, q⟩ := h
  obtain ⟨as, r1⟩ := Dp.reads I d x v hd rx
  obtain ⟨bs, r2⟩ := Dp.reads I e y u he ry
  exact SeqAt.compareNe_shaped r1 r2 sd se hu ⟨.bl _, H, I, rfl, q⟩
end
end L2
namespace L2
open PySem PySem.Spec PyProof.Rows
abbrev CellAt (h : Heap) (c : Addr) (v : Option Value) : Prop := h.IsCell c v
def relS (scope sc : Scope) : Scope :=
  { scope with names := scope.names.map fun (n, k) => if (k == .free && sc.kind == .function && sc.names.lookup n == some .cell) then (n, .cell) else (n, k) }
def cloFrom (cells : List (Str × Addr)) : List (Str × NameKind) → List (Str × Addr) → List (Str × Addr)
  | [], acc => acc
  | (n, k) :: r, acc => if k == .free then cloFrom cells r ((n, (cells.lookup n).getD 0) :: acc) else cloFrom cells r acc
theorem closure_loop (env : Env) (f : Str × NameKind → List (Str × Addr) → Sem (ForInStep (List (Str × Addr))))
    (hf : ∀ n k c, f (n, k) c = if k == .free then (do let a ← cellOf env n; pure (.yield ((n, a) :: c))) else pure (.yield c)) :
    ∀ (names : List (Str × NameKind)) (acc : List (Str × Addr)), (∀ y ∈ names, y.2 = .free → ∃ c, env.cells.lookup y.1 = some c) → forIn names acc f = pure (cloFrom env.cells names acc)
  | [], acc, _ => by rw [List.forIn_nil]; rfl
  | (n, k) :: r, acc, h => by
    rw [List.forIn_cons, hf]
    have ih := fun acc => closure_loop env f hf r acc fun y hy => h y (List.mem_cons_of_mem _ hy)
    unfold cloFrom
    by_cases hk : (k == NameKind.free) = true
    · rw [if_pos hk, if_pos hk]
      obtain ⟨c, hc⟩ := h (n, k) List.mem_cons_self (by simpa using hk)
      have e : cellOf env n = pure c := by unfold cellOf; rw [hc]
      rw [e]
      have e2 : (env.cells.lookup n).getD 0 = c := by rw [hc]; rfl
      rw [e2]
      exact ih _
    · rw [if_neg hk, if_neg hk]
      exact ih _
theorem closure_ok {scope : Scope} {env : Env} (h : ∀ y ∈ scope.names, y.2 = .free → ∃ c, env.cells.lookup y.1 = some c) : closureFor scope env = pure (cloFrom env.cells scope.names []) := by
  simp only [closureFor]
  rw [closure_loop env _ (fun n k c => rfl) scope.names [] h]
  rfl
theorem mem_lookup {α : Type} : ∀ {l : List (Str × α)} {n : Str} {c : α}, (n, c) ∈ l → ∃ c', l.lookup n = some c'
  | (k, v) :: r, n, c, h => by
    rw [List.lookup_cons]
    cases hb : n == k with
    | true => exact ⟨_, rfl⟩
    | false =>
      rcases List.mem_cons.mp h with e | h
      · cases e; simp at hb
      · exact mem_lookup h
theorem cloFrom_mem {cells : List (Str × Addr)} : ∀ {names : List (Str × NameKind)} {acc : List (Str × Addr)} {n : Str} {c : Addr}, (n, c) ∈ cloFrom cells names acc → (n, c) ∈ acc ∨ ((n, .free) ∈ names ∧ c = (cells.lookup n).getD 0)
  | [], _, _, _, h => .inl h
  | (m, k) :: r, acc, n, c, h => by
    unfold cloFrom at h
    split at h
    · rename_i hk
      have hk : k = .free := by simpa using hk
      rcases cloFrom_mem h with h | ⟨h1, h2⟩
      · rcases List.mem_cons.mp h with e | h
        · cases e; exact .inr ⟨hk ▸ List.mem_cons_self, rfl⟩
        · exact .inl h
      · exact .inr ⟨List.mem_cons_of_mem _ h1, h2⟩
    · rcases cloFrom_mem h with h | ⟨h1, h2⟩
      · exact .inl h
      · exact .inr ⟨List.mem_cons_of_mem _ h1, h2⟩
theorem cloFrom_acc {cells : List (Str × Addr)} : ∀ {names : List (Str × NameKind)} {acc : List (Str × Addr)} {p : Str × Addr}, p ∈ acc → p ∈ cloFrom cells names acc
  | [], _, _, h => h
  | (m, k) :: r, acc, p, h => by
    unfold cloFrom
    split
    · exact cloFrom_acc (List.mem_cons_of_mem _ h)
    · exact cloFrom_acc h
theorem cloFrom_has {cells : List (Str × Addr)} : ∀ {names : List (Str × NameKind)} {acc : List (Str × Addr)} {n : Str}, (n, .free) ∈ names → (n, (cells.lookup n).getD 0) ∈ cloFrom cells names acc
  | (m, k) :: r, acc, n, h => by
    unfold cloFrom
    rcases List.mem_cons.mp h with e | h
    · cases e
      exact cloFrom_acc List.mem_cons_self
    · split
      · exact cloFrom_has h
      · exact cloFrom_has h
theorem cells_mem : ∀ {names : List (Str × NameKind)} {h : Heap} {acc : List (Str × Addr)} {x : Str} {c : Addr}, (x, c) ∈ cellsFrom h.objs.size names acc →
    (x, c) ∈ acc ∨ ((x, .cell) ∈ names ∧ h.objs.size ≤ c ∧ CellAt (pushCells h names) c none)
  | [], _, _, _, _, h => .inl h
  | (n, k) :: r, h, acc, x, c, hm => by
    unfold cellsFrom at hm
    unfold pushCells
    split at hm
    · rename_i hk
      rw [if_pos hk]
      have hk : k = .cell := by simpa using hk
      rw [← Heap.size_push h { cls := .type "cell", data := .cell none }] at hm
      rcases cells_mem hm with hm | ⟨h1, h2, h3⟩
      · rcases List.mem_cons.mp hm with e | hm
        · cases e
          exact .inr ⟨hk ▸ List.mem_cons_self, Nat.le_refl _, _, pushCells_keeps r _ _ _ (Heap.get?_push_size _ rfl), rfl⟩
        · exact .inl hm
      · rw [Heap.size_push] at h2
        exact .inr ⟨List.mem_cons_of_mem _ h1, Nat.le_of_succ_le h2, h3⟩
    · rename_i hk
      rw [if_neg hk]
      rcases cells_mem hm with hm | ⟨h1, h2, h3⟩
      · exact .inl hm
      · exact .inr ⟨List.mem_cons_of_mem _ h1, h2, h3⟩
theorem cells_acc : ∀ {names : List (Str × NameKind)} {n : Nat} {acc : List (Str × Addr)} {p : Str × Addr}, p ∈ acc → p ∈ cellsFrom n names acc
  | [], _, _, _, h => h
  | (m, k) :: r, n, acc, p, h => by
    unfold cellsFrom
    split
    · exact cells_acc (List.mem_cons_of_mem _ h)
    · exact cells_acc h
theorem cells_has : ∀ {names : List (Str × NameKind)} {n : Nat} {acc : List (Str × Addr)} {x : Str}, (x, .cell) ∈ names → ∃ c, (x, c) ∈ cellsFrom n names acc
  | (m, k) :: r, n, acc, x, h => by
    unfold cellsFrom
    rcases List.mem_cons.mp h with e | h
    · cases e
      exact ⟨n, cells_acc List.mem_cons_self⟩
    · split
      · exact cells_has h
      · exact cells_has h
theorem cells_inj : ∀ {names : List (Str × NameKind)} {h : Heap} {acc : List (Str × Addr)} {x y : Str} {c : Addr}, (∀ p ∈ acc, p.2 < h.objs.size) → (∀ x y c, (x, c) ∈ acc → (y, c) ∈ acc → x = y) →
    (x, c) ∈ cellsFrom h.objs.size names acc → (y, c) ∈ cellsFrom h.objs.size names acc → x = y
  | [], _, _, _, _, _, _, hi, h1, h2 => hi _ _ _ h1 h2
  | (n, k) :: r, h, acc, x, y, c, hl, hi, h1, h2 => by
    unfold cellsFrom at h1 h2
    split at h1
    · rename_i hk
      rw [if_pos hk] at h2
      rw [← Heap.size_push h { cls := .type "cell", data := .cell none }] at h1 h2
      refine cells_inj (h := h.push _) (fun p hp => ?_) (fun x y c a b => ?_) h1 h2
      · rw [Heap.size_push]
        rcases List.mem_cons.mp hp with rfl | hp
        · exact Nat.lt_succ_self _
        · exact Nat.lt_succ_of_lt (hl p hp)
      · rcases List.mem_cons.mp a with e | a <;> rcases List.mem_cons.mp b with e' | b
        · cases e; cases e'; rfl
        · cases e; exact absurd (hl _ b) (Nat.lt_irrefl _)
        · cases e'; exact absurd (hl _ a) (Nat.lt_irrefl _)
        · exact hi _ _ _ a b
    · rename_i hk
      rw [if_neg hk] at h2
      exact cells_inj hl hi h1 h2
theorem newEnv_comp {M : Model} {A : Around} {E : Value → Shared → Prop} {s : Shared} {scope : Scope} {globals : Addr} {closure : List (Str × Addr)} {qual : Str} {func : Option Addr} {code : Value} {around : Env} {builtins : Addr} {Q : Env → Shared → Prop}
    (h : Q (newEnv scope s.heap.objs.size globals (cellsFrom (s.heap.objs.size + 1) scope.names closure) qual func code (some around) builtins)
      { s with heap := pushCells (s.heap.push { cls := .type "dict", data := .dict #[] }) scope.names }) :
    wpAny M A (newFunctionEnv scope globals closure [] qual func code (some around) builtins) Q E s := by
  simp only [newFunctionEnv, Option.isSome_some, if_true]
  refine wpAny_bind (wpAny_alloc ?_)
  refine wpAny_bind (wpAny_layCells _ (fun n k c => rfl) scope.names closure _ _ ?_)
  rw [show ({ s with heap := s.heap.push { cls := .type "dict", data := .dict #[] } } : Shared).heap.objs.size = s.heap.objs.size + 1 from Heap.size_push ..]
  rw [List.forIn_nil]
  exact wpAny_bind (wpAny_pure (wpAny_pure h))
theorem lookup_relS {sc : Scope} : ∀ {names : List (Str × NameKind)} {x : Str} {k : NameKind},
    (names.map fun (n, k) => if (k == NameKind.free && sc.kind == .function && sc.names.lookup n == some .cell) then (n, NameKind.cell) else (n, k)).lookup x = some k →
    ∃ k', names.lookup x = some k' ∧ (k = k' ∨ (k' = .free ∧ k = .cell))
  | [], _, _, h => by simp at h
  | (n, k₀) :: r, x, k, h => by
    have ih := @lookup_relS sc r x k
    have h' : List.lookup x ((if (k₀ == NameKind.free && sc.kind == .function && sc.names.lookup n == some .cell) = true then (n, NameKind.cell) else (n, k₀)) :: (r.map _)) = some k := h
    cases hx : x == n with
    | true =>
      simp only [List.lookup_cons, hx]
      by_cases hc : (k₀ == NameKind.free && sc.kind == .function && sc.names.lookup n == some .cell) = true
      · rw [if_pos hc] at h'
        simp only [List.lookup_cons, hx] at h'
        cases h'
        simp only [Bool.and_eq_true, beq_iff_eq] at hc
        exact ⟨k₀, rfl, .inr ⟨hc.1.1, rfl⟩⟩
      · rw [if_neg hc] at h'
        simp only [List.lookup_cons, hx] at h'
        cases h'
        exact ⟨_, rfl, .inl rfl⟩
    | false =>
      simp only [List.lookup_cons, hx]
      by_cases hc : (k₀ == NameKind.free && sc.kind == .function && sc.names.lookup n == some .cell) = true
      · rw [if_pos hc] at h'
        simp only [List.lookup_cons, hx] at h'
        exact ih h'
      · rw [if_neg hc] at h'
        simp only [List.lookup_cons, hx] at h'
        exact ih h'
structure BlkOk (N : List Str) (sc scope : Scope) (own : List (Str × Nat)) : Prop where
  kind : scope.kind = .function
  uniq : ∀ y ∈ scope.names, scope.names.lookup y.1 = some y.2
  ix : ∀ p ∈ own, N[p.2]? = some p.1
  free : ∀ y ∈ scope.names, y.2 = .free → sc.names.lookup y.1 = some .cell ∨ sc.names.lookup y.1 = some .free
  own : ∀ y ∈ scope.names, y.2 = .local ∨ y.2 = .cell → y.1 ∈ own.map (·.1) ∨ y.1 ∉ N
def wipe (σ : St) : List Nat → St
  | [] => σ
  | v :: vs => (wipe σ vs).set v none
theorem wipe_length (σ : St) : ∀ vs : List Nat, (wipe σ vs).length = σ.length
  | [] => rfl
  | v :: vs => by unfold wipe; rw [List.length_set, wipe_length σ vs]
theorem wipe_some {σ : St} {i : Nat} {x : V} : ∀ {vs : List Nat}, (wipe σ vs)[i]? = some (some x) → σ[i]? = some (some x) ∧ i ∉ vs
  | [], h => ⟨h, by simp⟩
  | v :: vs, h => by
    unfold wipe at h
    by_cases hi : v = i
    · subst hi
      by_cases hv : v < (wipe σ vs).length
      · rw [List.getElem?_set_self hv] at h; cases h
      · rw [List.getElem?_eq_none (by simpa using hv)] at h; cases h
    · rw [List.getElem?_set_ne hi] at h
      obtain ⟨h1, h2⟩ := wipe_some h
      exact ⟨h1, by simp only [List.mem_cons, not_or]; exact ⟨fun e => hi e.symm, h2⟩⟩
abbrev Cx.blk (X : Cx) (s : Shared) (H : Hp) (scope : Scope) (cenv : Env) (fp : List Addr) : Cx := { X with s_0 := s, H_0 := H, env := cenv, outer := X.stack, ex := fp, fn := fun x => scope.names.lookup x == some .cell, pn := [], xe := fun _ _ => False }
section
variable {X : Cx} {pins : List (Addr × Obj)} {σ : St} {H : Hp} {s : Shared}
theorem block_start {scope : Scope} {own : List (Str × Nat)} {fp : List Addr} (I : Inv X pins σ H s) (ok : BlkOk X.N X.env.scope scope own) (hN : X.N.Nodup) (hfp : ∀ b ∈ fp, FpOk X pins H b ∧ b < s.heap.objs.size) :
    Inv (X.blk s H scope (compEnvC scope (cellsFrom (s.heap.objs.size + 1) scope.names (cloFrom X.env.cells scope.names [])) s.heap.objs.size X.env) fp) [] (wipe σ (own.map (·.2))) H { s with heap := pushCells (s.heap.push { cls := .type "dict", data := .dict #[] }) scope.names } := by
  have hfree : ∀ y ∈ scope.names, y.2 = .free → ∃ c, X.env.cells.lookup y.1 = some c := fun y hy e => by
    rcases ok.free y hy e with k | k
    · exact I.ok.has _ (.inl k)
    · exact I.ok.has _ (.inr k)
  generalize hcenv : compEnvC scope (cellsFrom (s.heap.objs.size + 1) scope.names (cloFrom X.env.cells scope.names [])) s.heap.objs.size X.env = cenv
  have kp : ∀ b o, s.heap.get? b = some o → (pushCells (s.heap.push { cls := .type "dict", data := .dict #[] }) scope.names).get? b = some o := fun b o e => pushCells_keeps _ _ _ _ (Heap.get?_push_of_some _ e)
  have hL : cenv.locals = s.heap.objs.size := by rw [← hcenv]; rfl
  have hcl : cenv.cells = cellsFrom (s.heap.objs.size + 1) scope.names (cloFrom X.env.cells scope.names []) := by rw [← hcenv]; rfl
  have hsc : cenv.scope = relS scope X.env.scope := by rw [← hcenv]; rfl
  rw [← Heap.size_push s.heap { cls := .type "dict", data := .dict #[] }] at hcl
  have cm : ∀ {y c}, (y, c) ∈ cloFrom X.env.cells scope.names [] → X.env.cells.lookup y = some c ∧ c < s.heap.objs.size := fun {y c} hm => by
    rcases cloFrom_mem hm with hm | ⟨h1, rfl⟩
    · cases hm
    · obtain ⟨c, hc⟩ := hfree _ h1 rfl
      rw [hc]
      obtain ⟨w, z⟩ := I.cell _ _ hc
      exact ⟨rfl, z.lt⟩
  have mem : ∀ {y c}, cenv.cells.lookup y = some c → (X.env.cells.lookup y = some c ∧ c < s.heap.objs.size) ∨ (s.heap.objs.size + 1 ≤ c ∧ CellAt (pushCells (s.heap.push { cls := .type "dict", data := .dict #[] }) scope.names) c none) := fun {y c} e => by
    rw [hcl] at e
    rcases cells_mem (PySem.mem_of_lookup e) with hm | ⟨_, h2, h3⟩
    · exact .inl (cm hm)
    · rw [Heap.size_push] at h2; exact .inr ⟨h2, h3⟩
  have look : ∀ {y}, scope.names.lookup y = some .free → ∃ c, cenv.cells.lookup y = some c ∧ X.env.cells.lookup y = some c := fun {y} hl => by
    have hy : (y, NameKind.free) ∈ scope.names := PySem.mem_of_lookup hl
    obtain ⟨c', e'⟩ := mem_lookup (cells_acc (names := scope.names) (n := (s.heap.push { cls := .type "dict", data := .dict #[] }).objs.size) (cloFrom_has (cells := X.env.cells) (acc := []) hy))
    rw [← hcl] at e'
    refine ⟨c', e', ?_⟩
    rw [hcl] at e'
    rcases cells_mem (PySem.mem_of_lookup e') with hm | ⟨h1, _, _⟩
    · exact (cm hm).1
    · have := ok.uniq _ h1
      rw [hl] at this; cases this
  have okB : (X.blk s H scope cenv fp).Ok := by
    refine ⟨I.ok.mod, by show cenv.scope.kind = _; rw [hsc]; exact ok.kind, by show cenv.globals = _; rw [← hcenv]; exact I.ok.glob, by show cenv.builtins = _; rw [← hcenv]; exact I.ok.blt, by show s.heap.objs.size ≤ cenv.locals; rw [hL]; exact Nat.le_refl _,
      fun y z c e1 e2 => ?_, fun y hy => ?_, fun y c z e => ?_, I.ok.hd, I.ok.frames, .inl rfl, fun b hb => ⟨?_, fun y c e z => ?_⟩, I.bs, Nat.le_trans I.ok.bsz I.sz, fun b o e hb => ?_, fun b hb z => ?_, I.stack, I.stkFree⟩
    · have e1 : cenv.cells.lookup y = some c := e1
      have e2 : cenv.cells.lookup z = some c := e2
      rw [hcl] at e1 e2
      refine cells_inj (fun p hp => ?_) (fun y z c a b => I.ok.inj y z c (cm a).1 (cm b).1) (PySem.mem_of_lookup e1) (PySem.mem_of_lookup e2)
      rw [Heap.size_push]
      exact Nat.lt_succ_of_lt (cm (y := p.1) (c := p.2) hp).2
    · show ∃ c, cenv.cells.lookup y = some c
      have key : ∀ k, cenv.kindOf y = some k → (k = .cell ∨ k = .free) → ∃ c, cenv.cells.lookup y = some c := fun k hk hk' => by
        unfold Env.kindOf at hk
        rw [hsc] at hk
        obtain ⟨k', e, r⟩ := lookup_relS hk
        have : k' = .cell ∨ k' = .free := by
          rcases r with rfl | ⟨rfl, _⟩
          · exact hk'
          · exact .inr rfl
        rcases this with rfl | rfl
        · obtain ⟨c, hm⟩ := cells_has (n := (s.heap.push { cls := .type "dict", data := .dict #[] }).objs.size) (acc := cloFrom X.env.cells scope.names []) (PySem.mem_of_lookup e)
          obtain ⟨c', e'⟩ := mem_lookup hm
          exact ⟨c', by rw [hcl]; exact e'⟩
        · obtain ⟨c, h1, _⟩ := look e
          exact ⟨c, h1⟩
      rcases hy with hy | hy
      · exact key _ hy (.inl rfl)
      · exact key _ hy (.inr rfl)
    · have z : (scope.names.lookup y == some NameKind.cell) = true := z
      have z : scope.names.lookup y = some .cell := by simpa using z
      have e : cenv.cells.lookup y = some c := e
      rw [hcl] at e
      rcases cells_mem (PySem.mem_of_lookup e) with hm | ⟨_, h2, _⟩
      · rcases cloFrom_mem hm with hm | ⟨h1, _⟩
        · cases hm
        · have q := ok.uniq _ h1
          rw [z] at q; cases q
      · rw [Heap.size_push] at h2
        exact Nat.le_of_succ_le h2
    · show b ≠ cenv.locals
      rw [hL]; exact Nat.ne_of_lt (hfp b hb).2
    · have e : cenv.cells.lookup y = some c := e
      rcases mem e with ⟨h1, _⟩ | ⟨h1, _⟩
      · exact (hfp b hb).1.2.2.2.2.1 y c h1 z
      · have h2 : s.heap.objs.size + 1 ≤ b := by rw [← z]; exact h1
        exact absurd (Nat.lt_of_lt_of_le (hfp b hb).2 (Nat.le_of_succ_le h2)) (Nat.lt_irrefl _)
    · rcases (hfp b hb).1.2.2.2.1 with z | z
      · exact I.ok.noex b o e z
      · exact absurd (Nat.lt_of_lt_of_le (Heap.lt_size e) (Nat.le_trans I.ok.bsz z)) (Nat.lt_irrefl _)
    · rcases List.mem_cons.mp (I.stkSub b z) with z | z
      · exact (hfp b hb).1.2.1 z
      · exact (hfp b hb).1.2.2.1 z
  refine ⟨okB, rfl, I.bare, Un.kept kp, ⟨fun _ => none, ?_, fun i y av e1 e2 e3 => ?_⟩, fun y c e => ?_, ?_, fun y c e => ?_, fun p hp => ?_, I.hok.kept kp, by rw [wipe_length]; exact I.len⟩
  · show Heap.Ns _ cenv.locals _
    rw [hL]
    exact Heap.Ns.keeps (Heap.Ns.new ..) fun b o e => pushCells_keeps _ _ _ _ e
  · obtain ⟨e2, hne⟩ := wipe_some e2
    have hfr : scope.names.lookup y = some .free ∧ (cenv.kindOf y = some .cell ∨ cenv.kindOf y = some .free) := by
      have key : ∀ k, cenv.scope.names.lookup y = some k → k = .local ∨ k = .cell ∨ k = .free → scope.names.lookup y = some .free ∧ (cenv.kindOf y = some .cell ∨ cenv.kindOf y = some .free) := fun k hk hk' => by
        have hk0 := hk
        rw [hsc] at hk
        obtain ⟨k', e, r⟩ := lookup_relS hk
        have no : ¬ (k' = .local ∨ k' = .cell) := fun hh => by
          rcases ok.own _ (PySem.mem_of_lookup e) hh with e' | e'
          · obtain ⟨p, hp, hpy⟩ := List.mem_map.mp e'
            have e3 := ok.ix p hp
            have : p.1 = y := hpy
            rw [this] at e3
            exact hne (List.mem_map.mpr ⟨p, hp, nodup_ix hN e3 e1⟩)
          · exact e' (List.mem_of_getElem? e1)
        rcases r with rfl | ⟨rfl, rfl⟩
        · rcases hk' with rfl | rfl | rfl
          · exact absurd (.inl rfl) no
          · exact absurd (.inr rfl) no
          · exact ⟨e, .inr hk0⟩
        · exact ⟨e, .inl hk0⟩
      have e3 : Vis cenv.scope y := e3
      rcases e3 with e3 | e3 | e3
      · exact key _ e3 (.inl rfl)
      · exact key _ e3 (.inr (.inl rfl))
      · exact key _ e3 (.inr (.inr rfl))
    obtain ⟨m, hn, hl⟩ := I.loc
    have hvis : Vis X.env.scope y := (ok.free _ (PySem.mem_of_lookup hfr.1) rfl).elim (fun k => .inr (.inl k)) (fun k => .inr (.inr k))
    obtain ⟨w, r, q⟩ := hl i y av e1 e2 hvis
    refine ⟨w, r, .inr ⟨hfr.2, ?_⟩⟩
    obtain ⟨c, h1, h2⟩ := look hfr.1
    rcases q with ⟨k, _⟩ | ⟨_, c', e', z⟩
    · have k : X.env.scope.names.lookup y = some .local := k
      rcases ok.free _ (PySem.mem_of_lookup hfr.1) rfl with k' | k' <;> rw [show X.env.scope.names.lookup y = _ from k'] at k <;> cases k
    · rw [h2] at e'; cases e'
      exact ⟨c, h1, z.keeps kp⟩
  · have e : cenv.cells.lookup y = some c := e
    rcases mem e with ⟨h1, _⟩ | ⟨_, z⟩
    · obtain ⟨w, z⟩ := I.cell y c h1
      exact ⟨w, z.keeps kp⟩
    · exact ⟨_, z⟩
  · show H cenv.locals = none
    rw [hL]; exact I.hok.fresh (Nat.le_refl _)
  · have e : cenv.cells.lookup y = some c := e
    rcases mem e with ⟨h1, _⟩ | ⟨h1, _⟩
    · exact I.freeC y c h1
    · exact I.hok.fresh (Nat.le_of_succ_le h1)
  · exact absurd (show p ∈ ([] : List (Addr × Obj)) ++ [] from hp) (by simp)
theorem app_ok {E : Value → Shared → Prop} {D : Addr} {xs : List V} {y : V} {v : Value} {Q : Value → Shared → Prop} (I : Inv X pins σ H s) (hD : H D = some (.lst xs)) (hz : xs.length < sizeLine) (r : RelV y v)
    (h : ∀ s', Inv X pins σ (upd H D (.lst (xs ++ [y]))) s' → Q .none s') : wpAny (model X.prog X.w) X.A (call (.builtin "list.append") [.ref D, v]) Q E s := by
  obtain ⟨hz', its, n, ri, e⟩ := I.hok D _ hD
  have hl := ri.length
  refine append_at (hsz := by rw [List.size_toArray]; omega) e fun h' sb ho' => ?_
  refine h { s with heap := h' } (I.write (t' := s.toks) (by rw [hD]; trivial) (.inl rfl) (fun b u hb q => (sb.2 b hb).trans q) ⟨_, ho'⟩ ⟨by rw [List.length_append]; exact hz, its ++ [v], n + 1, ri.append (.cons r .nil), ?_⟩)
  rw [ho']
  simp
def PTs (X : Cx) (ifs : List Expr) (t : TT) : Prop :=
  ∀ (pins : List (Addr × Obj)) (s : Shared) (σ : St) (H : Hp) (Q : Bool → Hp → Prop), Inv X pins σ H s → t σ H Q →
    wpAny (model X.prog X.w) X.A (forIn ifs true fun c r => if r = true then do let ok ← isTrue c X.env (eval c X.env); pure (ForInStep.yield ok) else pure (ForInStep.yield r)) (TP X pins σ Q) X.xe s
def tYes : TT := fun _ H Q => Q true H
theorem pts_nil : PTs X [] tYes := fun _ _ _ H _ I h => wpAny_tests_nil ⟨H, I, h⟩
theorem pts_one {c : Expr} {t : TT} (h : PT X c t) : PTs X [c] t := fun pins s σ H Q I hw => wpAny_tests_one (h pins s σ H Q I hw)
end
theorem thnF {α : Type} {t : Sem α} {Q Q' : α → Shared → Prop} {M : Model} {A : Around} {E : Value → Shared → Prop} {s : Shared} (h : wpAny M A t Q (fun _ _ => False) s) (hQ : ∀ a s, Q a s → Q' a s) : wpAny M A t Q' E s := wpAny_mono h hQ fun _ _ z => False.elim z
theorem compLoop_any {prog : Program} {w : World} {A : Around} {R : Result → Shared → Prop} {s : Shared} {elt target iter : Expr} {ifs : List Expr} {scope : Scope} {pos : Pos} {it acc : Value} {env : Env} (I : Nat → Shared → Prop)
    (turn : ∀ n s, I n s → wpAny (model prog w) A (pyNext it) (fun r s₁ => match r with
      | none => R (.ok .next) s₁
      | some v => wpAny (model prog w) A (letOwnedTupleGo target it v) (fun _ s₁' => wpAny (model prog w) A (assign target env v) (fun _ s₂ =>
          wpAny (model prog w) A (forIn ifs true fun c r => if r = true then do let ok ← isTrue c env (eval c env); pure (ForInStep.yield ok) else pure (ForInStep.yield r)) (fun ok s₃ =>
            if ok = true then wpAny (model prog w) A (eval elt env) (fun x s₄ =>
              wpAny (model prog w) A (call (.builtin "list.append") [acc, x]) (fun _ s₅ => ∃ m, m < n ∧ I m s₅) (notedBy (model prog w) A env fun e s' => R (.error e) s') s₄) (notedBy (model prog w) A env fun e s' => R (.error e) s') s₃
            else ∃ m, m < n ∧ I m s₃) (notedBy (model prog w) A env fun e s' => R (.error e) s') s₂) (notedBy (model prog w) A env fun e s' => R (.error e) s') s₁') (notedBy (model prog w) A env fun e s' => R (.error e) s') s₁) (notedBy (model prog w) A env fun e s' => R (.error e) s') s)
    (n : Nat) (h : I n s) :
    codeAny (model prog w) A (.compLoop (.ListComp elt [⟨target, iter, ifs, 0⟩] scope pos) 0 it acc env) R s := by
  refine codeAny_loop rfl I (fun n s hI => ?_) n h
  show wpAny _ A ((compTurn (.ListComp elt [⟨target, iter, ifs, 0⟩] scope pos) 0 it acc env).onRaise (fun x => do noteFrame x env; theTreesLotGoes x)) _ _ s
  refine wpAny_noted ?_
  rw [compTurn_list]
  refine wpAny_bind (wpAny_standAt (wpAny_bind (wpAny_mono (turn n s hI) (fun r s₁ h₁ => ?_) fun _ _ h' => h')))
  cases r with
  | none => exact wpAny_pure h₁
  | some v =>
    refine wpAny_bind (wpAny_mono h₁ (fun _ s₁' h₁' => ?_) fun _ _ h' => h')
    refine wpAny_bind (wpAny_mono h₁' (fun _ s₂ h₂ => wpAny_bind (wpAny_mono h₂ (fun ok s₃ h₃ => ?_) fun _ _ h' => h')) fun _ _ h' => h')
    cases ok with
    | false => exact wpAny_pure ⟨rfl, h₃⟩
    | true =>
      exact wpAny_bind (wpAny_bind (wpAny_mono h₃ (fun x s₄ h₄ => wpAny_bind (wpAny_mono h₄ (fun _ s₅ h₅ => wpAny_pure (wpAny_pure ⟨rfl, h₅⟩)) fun _ _ h' => h')) fun _ _ h' => h'))
section
variable {X : Cx}
def tLc (wi : TI) (g : TG) (tt : TT) (te : TE) (vs : List Nat) : TE := fun σ H Q => wi σ H fun J H1 => ∀ D, H1 D = none → ∃ W : Nat → Nat → Hp → Prop, (∃ m, W 0 m (upd H1 D (.lst []))) ∧ ∀ i m H, W i m H →
  (J.stop i H ∧ Q (.ref D) H) ∨ (J.go i H ∧ ∃ Nx : Hp → Prop, (∀ H', Nx H' → ∃ m', m' < m ∧ W (i + 1) m' H') ∧ ∀ x H', J.yld i H x H' → g x (wipe σ vs) H' fun σ2 H2 => wipe σ2 vs = wipe σ vs ∧ tt σ2 H2 fun b H3 =>
    if b = true then te σ2 H3 fun y H4 => ∃ acc, H4 D = some (.lst acc) ∧ acc.length < sizeLine ∧ Nx (upd H4 D (.lst (acc ++ [y]))) else Nx H3)
theorem lc_core {pins : List (Addr × Obj)} {s : Shared} {σ : St} {H : Hp} {Q : VK} {elt tg iter : Expr} {ifs : List Expr} {scope : Scope} {own : List (Str × Nat)} {pos pos' : Pos} {wi : TI} {g : TG} {tt : TT} {te : TE} {use : Option (Value → Sem Unit)} {Qf : Value → Shared → Prop}
    (hc : X.calm = true) (hN : X.N.Nodup) (I : Inv X pins σ H s) (hi : PI X tg iter wi) (ok : BlkOk X.N X.env.scope scope own)
    (hg : ∀ (s : Shared) (H : Hp) (C : Addr) (cl : List (Str × Addr)) (fp : List Addr), PG (X.blk s H scope (compEnvC scope cl C X.env) fp) tg g) (ht : ∀ (s : Shared) (H : Hp) (C : Addr) (cl : List (Str × Addr)) (fp : List Addr), PTs (X.blk s H scope (compEnvC scope cl C X.env) fp) ifs tt)
    (he : ∀ (s : Shared) (H : Hp) (C : Addr) (cl : List (Str × Addr)) (fp : List Addr), PE (X.blk s H scope (compEnvC scope cl C X.env) fp) elt te) (hs : ∀ x, foldedSetIterable iter X.env x = pure x)
    (h : tLc wi g tt te (own.map (·.2)) σ H Q)
    (hRR : ∀ D C s' m H', Inv X pins σ H' s' → Q (.ref D) H' → s'.heap.Ns C m → FpOk X pins H' C → compPost (model X.prog X.w) X.A X.xe use Qf (.ref D) C (.ok .next) s') :
    wpAny (model X.prog X.w) X.A (comprehension (.ListComp elt [⟨tg, iter, ifs, 0⟩] scope pos) scope X.env pos' (newList []) false (eval iter X.env) use) Qf X.xe s := by
  have hfree : ∀ y ∈ scope.names, y.2 = .free → ∃ c, X.env.cells.lookup y.1 = some c := fun y hy e => by
    rcases ok.free y hy e with k | k
    · exact I.ok.has _ (.inl k)
    · exact I.ok.has _ (.inr k)
  refine wpAny_comprehension_free (use := use) rfl hs (closure_ok hfree) ok.kind (fun y hy e => by rw [ok.uniq y hy, e])
    (thn (hi pins s σ H _ I h) fun xv s1 hx => thn hx fun itv s2 h2 => ?_)
  obtain ⟨it, fp, tn, J, H2, e, I2, T, st2, f2, q⟩ := h2
  subst e
  refine wpAny_newObj_type (newEnv_comp ?_) (by show 0 ≤ sizeLine; decide)
  generalize hD : s2.heap.objs.size = D
  have hDn : H2 D = none := I2.hok.fresh (Nat.le_of_eq hD)
  obtain ⟨W, ⟨m0, w0⟩, turn⟩ := q D hDn
  -- the new list
  generalize hs3 : ({ s2 with heap := s2.heap.push { cls := .type "list", data := .seq ([] : List Value).toArray } } : Shared) = s3
  have I3 : Inv X pins σ (upd H2 D (.lst [])) s3 := by
    rw [← hs3]
    refine I2.laid (t' := s2.toks) (fun b o e => Heap.get?_push_of_some _ e) (Nat.le_of_eq hD) ⟨Nat.zero_le _, [], 0, .nil, ?_⟩
    rw [← hD]
    exact Heap.get?_push_size _ rfl
  have h3 : s3.heap = s2.heap.push { cls := .type "list", data := .seq ([] : List Value).toArray } := by rw [← hs3]
  have sz : ∀ b ∈ fp, b < s2.heap.objs.size := fun b hb => by
    obtain ⟨o, e, _⟩ := T.obj _ _ st2 b hb
    exact Heap.lt_size e
  have f3 : ∀ b ∈ fp, FpOk X pins (upd H2 D (.lst [])) b ∧ b < s3.heap.objs.size := fun b hb => by
    have hlt := sz b hb
    refine ⟨⟨?_, (f2 b hb).2⟩, by rw [h3, Heap.size_push]; exact Nat.lt_succ_of_lt hlt⟩
    rw [upd_ne (by rw [← hD]; exact Nat.ne_of_lt hlt)]
    exact (f2 b hb).1
  have st3 : tn 0 s3.heap := T.keep _ _ _ st2 fun b _ o e => by rw [h3]; exact Heap.get?_push_of_some _ e
  have I4 := block_start I3 ok hN f3
  have pg := hg s3 (upd H2 D (.lst [])) s3.heap.objs.size (cellsFrom (s3.heap.objs.size + 1) scope.names (cloFrom X.env.cells scope.names [])) fp
  have pt := ht s3 (upd H2 D (.lst [])) s3.heap.objs.size (cellsFrom (s3.heap.objs.size + 1) scope.names (cloFrom X.env.cells scope.names [])) fp
  have pe := he s3 (upd H2 D (.lst [])) s3.heap.objs.size (cellsFrom (s3.heap.objs.size + 1) scope.names (cloFrom X.env.cells scope.names [])) fp
  show codeAny _ _ (.compStart (.ListComp elt [⟨tg, iter, ifs, 0⟩] scope pos) 0 (.ref it) (.ref D) (compEnvC scope (cellsFrom (s3.heap.objs.size + 1) scope.names (cloFrom X.env.cells scope.names [])) s3.heap.objs.size X.env)) (compPost (model X.prog X.w) X.A X.xe use Qf (.ref D) s3.heap.objs.size) { s3 with heap := pushCells (s3.heap.push { cls := .type "dict", data := .dict #[] }) scope.names }
  have nfp : ∀ b ∈ fp, (upd H2 D (.lst [])) b = none := fun b hb => (f3 b hb).1.1
  generalize hce : compEnvC scope (cellsFrom (s3.heap.objs.size + 1) scope.names (cloFrom X.env.cells scope.names [])) s3.heap.objs.size X.env = ce at I4 pg pt pe ⊢
  have cL : ce.locals = s3.heap.objs.size := by subst hce; rfl
  generalize hH3 : upd H2 D (.lst []) = H3 at I3 I4 pg pt pe w0 nfp f3
  generalize hs4 : ({ s3 with heap := pushCells (s3.heap.push { cls := .type "dict", data := .dict #[] }) scope.names } : Shared) = s4 at I4 ⊢
  have st4 : tn 0 s4.heap := T.keep _ _ _ st3 fun b _ o e => by rw [← hs4]; exact pushCells_keeps _ _ _ _ (Heap.get?_push_of_some _ e)
  have stat : ∀ {σ' : St} {H' : Hp} {s' : Shared}, Inv (X.blk s3 H3 scope ce fp) [] σ' H' s' → (∀ b ∈ fp, H' b = none) → ∀ b ∈ fp, FpOk (X.blk s3 H3 scope ce fp) [] H' b := fun {σ' H' s'} I' hn b hb =>
    ⟨hn b hb, (I'.ok.exf b hb).1, I'.ok.exfs b hb, .inl hb, fun x c e => (I'.ok.exf b hb).2 x c e, fun p hp => absurd (show p ∈ ([] : List (Addr × Obj)) ++ [] from hp) (by simp)⟩
  have loop : codeAny (model X.prog X.w) X.A (.compLoop (.ListComp elt [⟨tg, iter, ifs, 0⟩] scope pos) 0 (.ref it) (.ref D) ce) (compPost (model X.prog X.w) X.A X.xe use Qf (.ref D) s3.heap.objs.size) s4 := by
    refine compLoop_any (fun n s' => ∃ i H', Inv (X.blk s3 H3 scope ce fp) [] (wipe σ (own.map (·.2))) H' s' ∧ tn i s'.heap ∧ (∀ b ∈ fp, H' b = none) ∧ W i n H') ?_ m0 ⟨0, H3, I4, st4, nfp, w0⟩
    rintro n s5 ⟨i, H5, I5, st5, n5, w5⟩
    rcases turn i n H5 w5 with ⟨stop, qq⟩ | ⟨go, Nx, hNx, step⟩
    · have td := T.done (X.blk s3 H3 scope ce fp) rfl rfl rfl hc i [] s5 _ H5 (fun _ _ => False) I5 (stat I5 n5) st5 stop
      refine thnF td fun r s6 ⟨hr, I6⟩ => ?_
      subst hr
      -- back in the def's context
      have I7 : Inv X pins σ H5 s6 := I3.call' (ch := fp) I6.os I6.base I6.hok I6.bare fun b hb => ⟨(f3 b hb).1.2.2.2.1, (f3 b hb).1.2.1, (f3 b hb).1.2.2.2.2.1, (f3 b hb).1.2.2.2.2.2⟩
      have nC : H5 s3.heap.objs.size = none := by
        have z : H5 ce.locals = none := I6.free
        rw [cL] at z
        exact z
      obtain ⟨m, hn, _⟩ := I6.loc
      have hn : s6.heap.Ns ce.locals m := hn
      rw [cL] at hn
      exact hRR D s3.heap.objs.size s6 m H5 I7 qq hn (I3.fpOk (Nat.le_refl _) nC)
    · have ti := T.item (X.blk s3 H3 scope ce fp) rfl rfl rfl hc i [] s5 _ H5 (fun _ _ => False) I5 (stat I5 n5) st5 go
      refine thnF ti fun r s6 ⟨u, hr, h6⟩ => ?_
      subst hr
      refine thnF h6 fun _ s7 ⟨x, H7, I7, r7, y7, st7, n7⟩ => ?_
      have I7' := I7.pinned (stat I7 n7) (T.obj _ _ st7)
      refine thnF (pg _ s7 _ H7 x u _ I7' r7 (step x H7 y7)) fun _ s8 ⟨σ8, H8, I8, hw8, q8⟩ => ?_
      refine thnF (pt _ s8 σ8 H8 _ I8 q8) fun b s9 ⟨H9, I9, q9⟩ => ?_
      -- the turn's end
      have fin : ∀ {s' : Shared} {H' : Hp}, Inv (X.blk s3 H3 scope ce fp) ([] ++ pinsAt fp s7.heap) σ8 H' s' → Nx H' → ∃ m, m < n ∧ ∃ i H', Inv (X.blk s3 H3 scope ce fp) [] (wipe σ (own.map (·.2))) H' s' ∧ tn i s'.heap ∧ (∀ b ∈ fp, H' b = none) ∧ W i m H' := fun {s' H'} I' nx => by
        obtain ⟨m', hm, w'⟩ := hNx H' nx
        have pin' : ∀ b ∈ fp, ∀ o, s7.heap.get? b = some o → s'.heap.get? b = some o ∧ H' b = none := fun b hb o e =>
          let z := I'.pin (b, o) (List.mem_append_right _ (List.mem_append_right _ (mem_pinsAt hb e)))
          ⟨z.1, z.2.1⟩
        have hl : (wipe σ (own.map (·.2))).length = σ8.length := by rw [← hw8, wipe_length]
        refine ⟨m', hm, i + 1, H', (I'.unpinned (pins := [])).weak hl (fun j v e => ?_), T.keep _ _ _ st7 fun b hb o e => (pin' b hb o e).1, fun b hb => ?_, w'⟩
        · rw [← hw8] at e
          exact (wipe_some e).1
        · obtain ⟨o, e, _⟩ := T.obj _ _ st7 b hb
          exact (pin' b hb o e).2
      cases b with
      | false =>
        simp only [Bool.false_eq_true, if_false] at q9 ⊢
        exact fin I9 q9
      | true =>
        simp only [if_true] at q9 ⊢
        refine thnF (pe _ s9 σ8 H9 _ I9 q9) fun z s10 ⟨yv, H10, I10, r10, acc, hD10, hz10, nx⟩ => ?_
        exact app_ok (X := X.blk s3 H3 scope ce fp) I10 hD10 hz10 r10 fun s11 I11 => fin I11 nx
  exact codeAny_compStart_list loop (T.self X.A 0 _ _ _ st4 loop)
theorem pe_lc {elt tg iter : Expr} {ifs : List Expr} {scope : Scope} {own : List (Str × Nat)} {pos : Pos} {wi : TI} {g : TG} {tt : TT} {te : TE} (hc : X.calm = true) (hN : X.N.Nodup) (hi : PI X tg iter wi) (ok : BlkOk X.N X.env.scope scope own)
    (hg : ∀ (s : Shared) (H : Hp) (C : Addr) (cl : List (Str × Addr)) (fp : List Addr), PG (X.blk s H scope (compEnvC scope cl C X.env) fp) tg g) (ht : ∀ (s : Shared) (H : Hp) (C : Addr) (cl : List (Str × Addr)) (fp : List Addr), PTs (X.blk s H scope (compEnvC scope cl C X.env) fp) ifs tt)
    (he : ∀ (s : Shared) (H : Hp) (C : Addr) (cl : List (Str × Addr)) (fp : List Addr), PE (X.blk s H scope (compEnvC scope cl C X.env) fp) elt te) (hs : ∀ x, foldedSetIterable iter X.env x = pure x := by intro _; rfl) :
    PE X (.ListComp elt [⟨tg, iter, ifs, 0⟩] scope pos) (tLc wi g tt te (own.map (·.2))) := by
  intro pins s σ H Q I h
  rw [eval_ListComp]
  refine lc_core hc hN I hi ok hg ht he hs h fun D C s' m H' I' q hn f => ⟨m, hn, fun h'' sb => ?_⟩
  obtain ⟨f0, f1, f2, f3, f4, f5⟩ := f
  exact ⟨.ref D, H', I'.turned (t' := s'.toks) (fun b o hb e => (sb.2 b hb).trans e) f0 f1 f3 f4 f5, rfl, q⟩
theorem ps_setLc {i : Nat} {y : Str} {py : Pos} {elt tg iter : Expr} {ifs : List Expr} {scope : Scope} {own : List (Str × Nat)} {pos spos : Pos} {wi : TI} {g : TG} {tt : TT} {te : TE} (hc : X.calm = true) (hN : X.N.Nodup) (hy : X.N[i]? = some y) (hyl : X.env.scope.names.lookup y = some .local)
    (hsw : swapsWith (.ListComp elt [⟨tg, iter, ifs, 0⟩] scope pos) (some (.Name y py)) spos.line X.env = pure true) (hi : PI X tg iter wi) (ok : BlkOk X.N X.env.scope scope own)
    (hg : ∀ (s : Shared) (H : Hp) (C : Addr) (cl : List (Str × Addr)) (fp : List Addr), PG (X.blk s H scope (compEnvC scope cl C X.env) fp) tg g) (ht : ∀ (s : Shared) (H : Hp) (C : Addr) (cl : List (Str × Addr)) (fp : List Addr), PTs (X.blk s H scope (compEnvC scope cl C X.env) fp) ifs tt)
    (he : ∀ (s : Shared) (H : Hp) (C : Addr) (cl : List (Str × Addr)) (fp : List Addr), PE (X.blk s H scope (compEnvC scope cl C X.env) fp) elt te) (hs : ∀ x, foldedSetIterable iter X.env x = pure x := by intro _; rfl) :
    PS X (.Assign [.Name y py] (.ListComp elt [⟨tg, iter, ifs, 0⟩] scope pos) spos) (tAsg (tLc wi g tt te (own.map (·.2))) (gName i)) := by
  intro pins s σ H D I h
  rw [exec_Assign_Name_used _ _ _ _ hsw]
  refine wpAny_bind (wpAny_standAt (wpAny_bind ?_))
  show wpAny _ X.A (do let _ ← comprehension (.ListComp elt [⟨tg, iter, ifs, 0⟩] scope pos) scope X.env (firstIterPos [⟨tg, iter, ifs, 0⟩] pos) (newList []) false (eval iter X.env) (some (assign (.Name y py) X.env))) _ _ s
  have h : tLc wi g tt te (own.map (·.2)) σ H (fun x H1 => gName i x σ H1 D.nx) := h
  refine wpAny_bind (thn (lc_core (Qf := fun _ s' => SP X pins D .next s') hc hN I hi ok hg ht he hs h fun L C s' m H' I' q hn f => ?_) fun _ s' hq => wpAny_pure (wpAny_pure hq))
  show wpAny _ _ (assign (.Name y py) X.env (.ref L)) _ _ _
  refine wpAny_assign_Name (store_ok2 (v := V.ref L) I' hN hy (.inl hyl) rfl (fun s2 I2 ⟨a, sb, ha⟩ => ?_) (.inr hyl))
  obtain ⟨f0, f1, f2, f3, f4, f5⟩ := f
  have haC : C ≠ a := by
    rcases ha with z | z
    · rw [z]; exact f1
    · exact fun e => f4 y a z e.symm
  refine ⟨m, hn.sameBut sb haC, fun h3 sb3 => ?_⟩
  exact ⟨_, H', I2.turned (t' := s2.toks) (fun b o hb e => (sb3.2 b hb).trans e) f0 f1 f3 f4 f5, q⟩
end
def blkC (N : List Str) (sc scope : Scope) (own : List (Str × Nat)) : Bool :=
  (match scope.kind with | .function => true | _ => false) && (scope.names.all fun y => decide (scope.names.lookup y.1 = some y.2)) && (own.all fun p => decide (N[p.2]? = some p.1)) &&
    (scope.names.all fun y => match y.2 with
      | .free => (match sc.names.lookup y.1 with | some .cell => true | some .free => true | _ => false)
      | .local => decide (y.1 ∈ own.map (·.1)) || decide (y.1 ∉ N)
      | .cell => decide (y.1 ∈ own.map (·.1)) || decide (y.1 ∉ N)
      | _ => true)
end L2
namespace L2
open PySem PySem.Spec PyProof.Rows
section
variable {prog : Program} {w : World} {A : Around} {R : Result → Shared → Prop} {s : Shared} {elt t0 i0 t1 i1 : Expr} {ifs0 ifs1 : List Expr} {scope : Scope} {pos : Pos} {it acc : Value} {env : Env}
end
section
variable {X : Cx}
def tLc2 (wi : TI) (g : TG) (tt : TT) (wi1 : TI) (g1 : TG) (tt1 : TT) (te : TE) (vs vs1 : List Nat) : TE := fun σ H Q => wi σ H fun J H1 => ∀ D, H1 D = none → ∃ W : Nat → Nat → Hp → Prop, (∃ m, W 0 m (upd H1 D (.lst []))) ∧ ∀ i m H, W i m H →
  (J.stop i H ∧ Q (.ref D) H) ∨ (J.go i H ∧ ∃ Nx : Hp → Prop, (∀ H', Nx H' → ∃ m', m' < m ∧ W (i + 1) m' H') ∧ ∀ x H', J.yld i H x H' → g x (wipe σ vs) H' fun σ2 H2 => wipe σ2 vs = wipe σ vs ∧ tt σ2 H2 fun b H3 =>
    if b = true then wi1 σ2 H3 fun J1 H4 => ∃ W1 : Nat → Nat → Hp → Prop, (∃ m, W1 0 m H4) ∧ ∀ j k H, W1 j k H →
      (J1.stop j H ∧ Nx H) ∨ (J1.go j H ∧ ∃ Nx1 : Hp → Prop, (∀ H', Nx1 H' → ∃ k', k' < k ∧ W1 (j + 1) k' H') ∧ ∀ x H', J1.yld j H x H' → g1 x (wipe σ2 vs1) H' fun σ3 H5 => wipe σ3 vs1 = wipe σ2 vs1 ∧ tt1 σ3 H5 fun b H6 =>
        if b = true then te σ3 H6 fun y H7 => ∃ acc, H7 D = some (.lst acc) ∧ acc.length < sizeLine ∧ Nx1 (upd H7 D (.lst (acc ++ [y]))) else Nx1 H6)
    else Nx H3)
end
end L2
namespace L2
open PySem PySem.Spec PyProof.Rows
section
variable {κ : Type} [DecidableEq κ]
def valV (kvs : List (κ × V)) (k : κ) : Option V := (kvs.find? fun kv => decide (kv.1 = k)).map (·.2)
def putK (kvs : List (κ × V)) (k : κ) (v : V) : List (κ × V) :=
  if (kvs.any fun kv => decide (kv.1 = k)) = true then kvs.map (fun kv => if kv.1 = k then (kv.1, v) else kv) else kvs ++ [(k, v)]
def dropK (kvs : List (κ × V)) (k : κ) : List (κ × V) := kvs.filter fun kv => decide (kv.1 ≠ k)
theorem valV_pos {p : κ × V} {r : List (κ × V)} {k : κ} (e : p.1 = k) : valV (p :: r) k = some p.2 := by simp [valV, List.find?_cons, e]
theorem valV_neg {p : κ × V} {r : List (κ × V)} {k : κ} (e : ¬ p.1 = k) : valV (p :: r) k = valV r k := by simp [valV, List.find?_cons, e]
theorem valV_any (k : κ) : ∀ kvs : List (κ × V), (kvs.any fun kv => decide (kv.1 = k)) = (valV kvs k).isSome
  | [] => rfl
  | p :: r => by
    rw [List.any_cons]
    by_cases e : p.1 = k
    · simp only [valV_pos e, decide_eq_true e, Bool.true_or, Option.isSome_some]
    · rw [valV_neg e, decide_eq_false e, Bool.false_or]; exact valV_any k r
theorem RelO.isSome_eq {o : Option V} {u : Option Value} (r : RelO o u) : o.isSome = u.isSome := by
  cases o with
  | none => cases u with
    | none => rfl
    | some _ => exact (show False from r).elim
  | some _ => cases u with
    | none => exact (show False from r).elim
    | some _ => rfl
theorem RelO.getD {o : Option V} {u : Option Value} {d : V} {d' : Value} (r : RelO o u) (rd : RelV d d') : RelV (o.getD d) (u.getD d') := by
  cases o with
  | none => cases u with
    | none => exact rd
    | some _ => exact (show False from r).elim
  | some _ => cases u with
    | none => exact (show False from r).elim
    | some _ => exact r
theorem KV.val {kvs : List (κ × V)} {vs : List (κ × Value)} (r : KV kvs vs) (k : κ) : RelO (valV kvs k) (valueAt vs k) := by
  unfold KV at r
  induction r with
  | nil => exact True.intro
  | @cons p q ps qs h t ih =>
    obtain ⟨h1, h2⟩ := h
    by_cases e : p.1 = k
    · have e' : q.1 = k := h1.symm.trans e
      have b : valueAt (q :: qs) k = some q.2 := by simp [valueAt, List.find?_cons, e']
      rw [valV_pos e, b]; exact h2
    · have e' : ¬ q.1 = k := fun z => e (h1.trans z)
      have b : valueAt (q :: qs) k = valueAt qs k := by simp [valueAt, List.find?_cons, e']
      rw [valV_neg e, b]; exact ih
theorem KV.any {kvs : List (κ × V)} {vs : List (κ × Value)} (r : KV kvs vs) (k : κ) : (kvs.any fun kv => decide (kv.1 = k)) = vs.any fun kv => decide (kv.1 = k) := by
  unfold KV at r
  induction r with
  | nil => rfl
  | cons h t ih => rw [List.any_cons, List.any_cons, ih, h.1]
theorem KV.repl {kvs : List (κ × V)} {vs : List (κ × Value)} (r : KV kvs vs) (k : κ) {y : V} {u : Value} (ry : RelV y u) :
    KV (kvs.map fun kv => if kv.1 = k then (kv.1, y) else kv) (vs.map fun kv => if kv.1 = k then (kv.1, u) else kv) := by
  unfold KV at r ⊢
  induction r with
  | nil => exact .nil
  | @cons p q ps qs h t ih =>
    rw [List.map_cons, List.map_cons]
    refine .cons ?_ ih
    obtain ⟨h1, h2⟩ := h
    by_cases e : p.1 = k
    · rw [if_pos e, if_pos (h1.symm.trans e)]; exact ⟨h1, ry⟩
    · rw [if_neg e, if_neg (fun z => e (h1.trans z))]; exact ⟨h1, h2⟩
theorem KV.put {kvs : List (κ × V)} {vs : List (κ × Value)} (r : KV kvs vs) (k : κ) {y : V} {u : Value} (ry : RelV y u) : KV (putK kvs k y) (stored vs k u) := by
  unfold putK stored
  rw [r.any k]
  by_cases e : (vs.any fun kv => decide (kv.1 = k)) = true
  · rw [if_pos e, if_pos e]; exact r.repl k ry
  · rw [if_neg e, if_neg e]; exact Paired.snoc r ⟨rfl, ry⟩
theorem KV.drop {kvs : List (κ × V)} {vs : List (κ × Value)} (r : KV kvs vs) (k : κ) : KV (dropK kvs k) (without vs k) := by
  unfold KV at r ⊢
  unfold dropK without
  induction r with
  | nil => exact .nil
  | @cons p q ps qs h t ih =>
    obtain ⟨h1, h2⟩ := h
    rw [List.filter_cons, List.filter_cons]
    by_cases e : p.1 = k
    · have a : ¬ decide (p.1 ≠ k) = true := by simp [e]
      have b : ¬ decide (q.1 ≠ k) = true := by simp [h1.symm.trans e]
      rw [if_neg a, if_neg b]; exact ih
    · have e' : ¬ q.1 = k := fun z => e (h1.trans z)
      have a : decide (p.1 ≠ k) = true := by simp [e]
      have b : decide (q.1 ≠ k) = true := by simp [e']
      rw [if_pos a, if_pos b]; exact .cons ⟨h1, h2⟩ ih
theorem KV.keys {kvs : List (κ × V)} {vs : List (κ × Value)} (r : KV kvs vs) : kvs.map (·.1) = vs.map (·.1) := by
  unfold KV at r
  induction r with
  | nil => rfl
  | cons h t ih => rw [List.map_cons, List.map_cons, ih, h.1]
theorem KV.length {kvs : List (κ × V)} {vs : List (κ × Value)} (r : KV kvs vs) : kvs.length = vs.length := Paired.length r
end
abbrev KT (H : Hp) : List (List Key × V) → List (List Key × Addr × Value) → Prop := Paired fun p q => p.1 = q.1 ∧ H q.2.1 = some (.tup (p.1.map kV)) ∧ RelV p.2 q.2.2
theorem KT.val {H : Hp} {kvs : List (List Key × V)} {xs : List (List Key × Addr × Value)} (r : KT H kvs xs) (k : List Key) : RelO (valV kvs k) ((atKey xs k).map (·.2)) := by
  induction r with
  | nil => exact True.intro
  | @cons p q ps qs h t ih =>
    obtain ⟨h1, _, h2⟩ := h
    by_cases e : p.1 = k
    · have e' : q.1 = k := h1.symm.trans e
      have b : atKey (q :: qs) k = some q.2 := by simp [atKey, List.find?_cons, e']
      rw [valV_pos e, b]; exact h2
    · have e' : ¬ q.1 = k := fun z => e (h1.trans z)
      have b : atKey (q :: qs) k = atKey qs k := by simp [atKey, List.find?_cons, e']
      rw [valV_neg e, b]; exact ih
theorem KT.repl {H : Hp} {kvs : List (List Key × V)} {xs : List (List Key × Addr × Value)} (r : KT H kvs xs) (k : List Key) {y : V} {u : Value} (ry : RelV y u) :
    KT H (kvs.map fun kv => if kv.1 = k then (kv.1, y) else kv) (xs.map (putAt k u)) := by
  induction r with
  | nil => exact .nil
  | @cons p q ps qs h t ih =>
    rw [List.map_cons, List.map_cons]
    refine .cons ?_ ih
    obtain ⟨h1, h2, h3⟩ := h
    unfold putAt
    by_cases e : p.1 = k
    · rw [if_pos e, if_pos (h1.symm.trans e)]; exact ⟨h1, h2, ry⟩
    · rw [if_neg e, if_neg (fun z => e (h1.trans z))]; exact ⟨h1, h2, h3⟩
theorem KT.put {H : Hp} {kvs : List (List Key × V)} {xs : List (List Key × Addr × Value)} (r : KT H kvs xs) (k : List Key) {b : Addr} {y : V} {u : Value} (hb : H b = some (.tup (k.map kV))) (ry : RelV y u) :
    KT H (putK kvs k y) (storedH xs k b u) := by
  have e : (kvs.any fun kv => decide (kv.1 = k)) = (atKey xs k).isSome := by
    rw [valV_any, (r.val k).isSome_eq, Option.isSome_map]
  unfold putK storedH
  rw [e]
  by_cases q : (atKey xs k).isSome = true
  · rw [if_pos q, if_pos q]; exact r.repl k ry
  · rw [if_neg q, if_neg q]; exact Paired.snoc r ⟨rfl, hb, ry⟩
theorem KT.keeps {H H' : Hp} {kvs : List (List Key × V)} {xs : List (List Key × Addr × Value)} (r : KT H kvs xs) (ht : ∀ b ys, H b = some (.tup ys) → H' b = some (.tup ys)) : KT H' kvs xs :=
  Paired.mapP r fun _ _ z => ⟨z.1, ht _ _ z.2.1, z.2.2⟩
section
variable {P : Program} {w : World} {H : Hp} {h : Heap} {a : Addr}
theorem rd_of {u : HO} (ok : HOk P w H h) (e : Rd H a u) : ObjOk P w H h a u := e.ok ok
theorem dk_rd {kvs : List (Key × V)} (ok : HOk P w H h) (e : Rd H a (.dK kvs)) : kvs.length ≤ sizeLine ∧ (a == sysModules) = false ∧ ∃ vs, KV kvs vs ∧ h.DictOf (mixKind P w) a vs :=
  show ObjOk P w H h a (.dK kvs) from rd_of ok e
end
def DGet (H : Hp) (a : Addr) (y : V) (r : Option V) : Prop :=
  (∃ kvs k, Rd H a (.dK kvs) ∧ y = kV k ∧ r = valV kvs k) ∨ ∃ kvs k b, Rd H a (.dT kvs) ∧ y = .ref b ∧ H b = some (.tup (k.map kV)) ∧ r = valV kvs k
def DPut (H : Hp) (a : Addr) (y v : V) (H' : Hp) : Prop :=
  (∃ kvs k, H a = some (.dK kvs) ∧ y = kV k ∧ kvs.length < sizeLine ∧ H' = upd H a (.dK (putK kvs k v))) ∨
  ∃ kvs k b, H a = some (.dT kvs) ∧ y = .ref b ∧ H b = some (.tup (k.map kV)) ∧ kvs.length < sizeLine ∧ H' = upd H a (.dT (putK kvs k v))
theorem DGet.k {H : Hp} {a : Addr} {kvs : List (Key × V)} {k : Key} (e : H a = some (.dK kvs)) : DGet H a (kV k) (valV kvs k) := .inl ⟨kvs, k, .inl e, rfl, rfl⟩
theorem DGet.t {H : Hp} {a b : Addr} {kvs : List (List Key × V)} {k : List Key} (e : H a = some (.dT kvs)) (eb : H b = some (.tup (k.map kV))) : DGet H a (.ref b) (valV kvs k) := .inr ⟨kvs, k, b, .inl e, rfl, eb, rfl⟩
theorem DPut.k {H : Hp} {a : Addr} {kvs : List (Key × V)} {k : Key} {v : V} (e : H a = some (.dK kvs)) (hl : kvs.length < sizeLine) : DPut H a (kV k) v (upd H a (.dK (putK kvs k v))) := .inl ⟨kvs, k, e, rfl, hl, rfl⟩
theorem DPut.t {H : Hp} {a b : Addr} {kvs : List (List Key × V)} {k : List Key} {v : V} (e : H a = some (.dT kvs)) (eb : H b = some (.tup (k.map kV))) (hl : kvs.length < sizeLine) :
    DPut H a (.ref b) v (upd H a (.dT (putK kvs k v))) := .inr ⟨kvs, k, b, e, rfl, eb, hl, rfl⟩
section
variable {X : Cx} {pins : List (Addr × Obj)} {σ : St} {H : Hp} {s : Shared} {a : Addr} {y v : V} {u r : Value} {o : Option V} {A : Around} {E : Value → Shared → Prop}
theorem Inv.big (I : Inv X pins σ H s) : sysModules < s.heap.objs.size := by
  have h : mainGlobals < s.heap.objs.size := (I.mod.glob.keeps I.bk).lt
  exact Nat.lt_trans (by decide) h
end
section
variable {X : Cx} {pins : List (Addr × Obj)} {σ : St} {H : Hp} {s : Shared} {a : Addr} {kvs : List (Key × V)} {k : Key} {u : Value} {A : Around} {E : Value → Shared → Prop}
theorem d_len {Q : Value → Shared → Prop} (I : Inv X pins σ H s) (e : Rd H a (.dK kvs)) (h : ∀ t s', Inv X pins σ H s' → Q (.int kvs.length t) s') : wpAny (model X.prog X.w) A (call (.builtin "len") [.ref a]) Q E s := by
  obtain ⟨z, hd, vs, rel, dd⟩ := dk_rd I.hok e
  refine call_len_dict hd dd (by rw [← rel.length]; rw [sizeLine_eq] at z; omega) ?_
  rw [← rel.length]
  exact h _ _ (I.tok _)
end
def NoSl (i : Expr) : Prop := ∀ ov iv, subscripted i false ov iv = operate [ov, iv] (getItem ov iv)
def tDGet (td ty : TE) : TE := fun σ H Q => td σ H fun x H1 => ty σ H1 fun y H2 => ∃ a v, x = .ref a ∧ DGet H2 a y (some v) ∧ Q v H2
def tDIn (ty td : TE) : TE := fun σ H Q => ty σ H fun y H1 => td σ H1 fun x H2 => ∃ a o, x = .ref a ∧ DGet H2 a y o ∧ Q (.bl o.isSome) H2
def tDNotIn (ty td : TE) : TE := fun σ H Q => ty σ H fun y H1 => td σ H1 fun x H2 => ∃ a o, x = .ref a ∧ DGet H2 a y o ∧ Q (.bl (!o.isSome)) H2
def sDPut (td ty tv : TE) : TS := fun D σ H => tv σ H fun v H1 => td σ H1 fun x H2 => ty σ H2 fun y H3 => ∃ a H4, x = .ref a ∧ DPut H3 a y v H4 ∧ D.nx σ H4
def sDAug (td ty tv : TE) (rd : V → V → Hp → VK → Prop) : TS := fun D σ H => td σ H fun x H1 => ty σ H1 fun y H2 => ∃ a v, x = .ref a ∧ DGet H2 a y (some v) ∧
  tv σ H2 fun y2 H3 => rd v y2 H3 fun z H4 => ∃ H5, DPut H4 a y z H5 ∧ D.nx σ H5
def sDDel (td ty : TE) : TS := fun D σ H => td σ H fun x H1 => ty σ H1 fun y H2 => ∃ a kvs k, x = .ref a ∧ H2 a = some (.dK kvs) ∧ y = kV k ∧ (valV kvs k).isSome = true ∧ D.nx σ (upd H2 a (.dK (dropK kvs k)))
section
variable {X : Cx} {o i e value : Expr} {pos pos' tpos : Pos} {td ty tv : TE}
end
theorem dk_empty {P : Program} {w : World} {H : Hp} (h : Heap) (hb : sysModules < h.objs.size) : ObjOk P w H (h.push { cls := .type "dict", data := .dict #[] }) h.objs.size (.dK []) :=
  ⟨Nat.zero_le _, beq_eq_false_iff_ne.mpr (Ne.symm (Nat.ne_of_lt hb)), [], .nil, Heap.DictOf.new h⟩
def tDNewK : TE := fun _ H Q => ∀ p, H p = none → Q (.ref p) (upd H p (.dK []))
def tDNewT : TE := fun _ H Q => ∀ p, H p = none → Q (.ref p) (upd H p (.dT []))
section
variable {X : Cx} {pos : Pos}
theorem pe_dnewK : PE X (.Dict [] [] pos) tDNewK := fun pins s σ H Q I h =>
  wpAny_Dict_empty ⟨.ref s.heap.objs.size, _, I.laid (a := s.heap.objs.size) (o := .dK []) (t' := s.toks) (fun _ _ q => Heap.get?_push_of_some _ q) (Nat.le_refl _) (dk_empty s.heap I.big), rfl, h _ (I.hok.fresh (Nat.le_refl _))⟩
end
def tPairs : List (TE × TE) → St → Hp → (List (V × V) → Hp → Prop) → Prop
  | [], _, H, Q => Q [] H
  | (tk, tv) :: r, σ, H, Q => tk σ H fun x H1 => tv σ H1 fun y H2 => tPairs r σ H2 fun ps H3 => Q ((x, y) :: ps) H3
abbrev VV : List (V × V) → List (Value × Value) → Prop := Paired fun p q => RelV p.1 q.1 ∧ RelV p.2 q.2
def PPs (X : Cx) (pos : Pos) (keys : List (Option Expr)) (values : List Expr) (trs : List (TE × TE)) : Prop :=
  ∀ (pins : List (Addr × Obj)) (s : Shared) (σ : St) (H : Hp) (Q : List (V × V) → Hp → Prop), Inv X pins σ H s → tPairs trs σ H Q →
    wpAny (model X.prog X.w) X.A (evalPairs (pairTrees keys values X.env pos)) (fun vs s' => ∃ ps H', Inv X pins σ H' s' ∧ VV ps vs ∧ Q ps H') X.xe s
def mergeK (kvs more : List (Key × V)) : List (Key × V) := more.foldl (fun acc kv => putK acc kv.1 kv.2) kvs
def tDisp (trs : List (TE × TE)) : TE := fun σ H Q => ∀ p, H p = none → tPairs trs σ (upd H p (.dK [])) fun ps H2 => H2 p = some (.dK []) ∧ ∃ kvs : List (Key × V), ps = kvs.map (fun kv => (kV kv.1, kv.2)) ∧ kvs.length ≤ 15 ∧ Q (.ref p) (upd H2 p (.dK (mergeK [] kvs)))
structure M1 (X : Cx) (o : Expr) (m : Str) (apos : Pos) (e : Expr) (cpos : Pos) : Prop where
  base : attributeBase o m X.env (eval o X.env) = eval o X.env
  few : ((backTo cpos (starEach [e] X.env)).all (fun x => !x.1) && (backToKw cpos (keywordEach [] X.env)).all (fun x => x.1.isSome)
    && decide (([e] : List Expr).length + ([] : List Keyword).length + (if ([] : List Keyword).isEmpty then 0 else 1) < 30)) = true
  line : (apos.endLine == cpos.line) = true
  trees : backTo cpos (starEach [e] X.env) = [(false, eval e X.env)]
structure M2 (X : Cx) (o : Expr) (m : Str) (apos : Pos) (e f : Expr) (cpos : Pos) : Prop where
  base : attributeBase o m X.env (eval o X.env) = eval o X.env
  few : ((backTo cpos (starEach [e, f] X.env)).all (fun x => !x.1) && (backToKw cpos (keywordEach [] X.env)).all (fun x => x.1.isSome)
    && decide (([e, f] : List Expr).length + ([] : List Keyword).length + (if ([] : List Keyword).isEmpty then 0 else 1) < 30)) = true
  line : (apos.endLine == cpos.line) = true
  trees : backTo cpos (starEach [e, f] X.env) = [(false, eval e X.env), (false, eval f X.env)]
def IsD (H : Hp) (a : Addr) : Prop := (∃ kvs, Rd H a (.dK kvs)) ∨ ∃ kvs, Rd H a (.dT kvs)
section
variable {X : Cx} {pins : List (Addr × Obj)} {σ : St} {H : Hp} {s : Shared} {a : Addr} {y d : V} {u r : Value} {o : Option V} {A : Around} {E : Value → Shared → Prop}
end
def tDGet1 (td ty : TE) : TE := fun σ H Q => td σ H fun x H1 => ∃ a, x = .ref a ∧ IsD H1 a ∧ ty σ H1 fun y H2 => ∃ o, DGet H2 a y o ∧ Q (o.getD .non) H2
def tDGet2 (td ty tx : TE) : TE := fun σ H Q => td σ H fun x H1 => ∃ a, x = .ref a ∧ IsD H1 a ∧ ty σ H1 fun y H2 => tx σ H2 fun z H3 => ∃ o, DGet H3 a y o ∧ Q (o.getD z) H3
def tDPop1 (td ty : TE) : TE := fun σ H Q => td σ H fun x H1 => ∃ a, x = .ref a ∧ IsD H1 a ∧ ty σ H1 fun y H2 => ∃ kvs k v, H2 a = some (.dK kvs) ∧ y = kV k ∧ valV kvs k = some v ∧ Q v (upd H2 a (.dK (dropK kvs k)))
def tDPop2 (td ty tx : TE) : TE := fun σ H Q => td σ H fun x H1 => ∃ a, x = .ref a ∧ IsD H1 a ∧ ty σ H1 fun y H2 => tx σ H2 fun z H3 => ∃ kvs k, H3 a = some (.dK kvs) ∧ y = kV k ∧
  (∀ v, valV kvs k = some v → Q v (upd H3 a (.dK (dropK kvs k)))) ∧ (valV kvs k = none → Q z H3)
section
variable {X : Cx} {o e f : Expr} {apos cpos : Pos} {td ty tx : TE}
end
section
variable {X : Cx} {pins : List (Addr × Obj)} {σ : St} {H : Hp} {s : Shared} {a : Addr} {kvs : List (Key × V)} {A : Around} {E : Value → Shared → Prop}
end
section
variable {X : Cx} {pins : List (Addr × Obj)} {σ : St} {H : Hp} {s : Shared} {a : Addr} {y : V} {u : Value} {A : Around} {E : Value → Shared → Prop}
end
end L2
namespace L2
open PySem PySem.Spec PyProof.Rows
section
variable {prog : Program} {w : World} {A : Around} {E : Value → Shared → Prop}
end
section
variable {X : Cx}
end
end L2
namespace L2
open PySem PySem.Spec PyProof.Rows
section
variable {X : Cx} {pins : List (Addr × Obj)} {σ : St} {H : Hp} {s : Shared} {h' : Heap}
end
def tLock (t : TS) : TS := fun D σ H => ∃ d u, H d = some u ∧ Mut (some u) ∧ ∀ od, t ⟨fun σ' H' => H' d = some (.frz od u) ∧ D.nx σ' (upd H' d u), fun v H' => H' d = some (.frz od u) ∧ D.rt v (upd H' d u), fun σ' H' => H' d = some (.frz od u) ∧ D.bk σ' (upd H' d u), fun σ' H' => H' d = some (.frz od u) ∧ D.ct σ' (upd H' d u)⟩ σ (upd H d (.frz od u))
def tLockE (t : TE) : TE := fun σ H Q => ∃ d u, H d = some u ∧ Mut (some u) ∧ ∀ od, t σ (upd H d (.frz od u)) fun v H' => H' d = some (.frz od u) ∧ Q v (upd H' d u)
section
variable {X : Cx}
end
def Itc (lo c : Int) (n : Nat) : It := ⟨fun i _ => i < n, fun i H x H' => H' = H ∧ x = .int (lo + (i : Nat) * c), fun i _ => n ≤ i⟩
def RgC (i j c : Int) (n : Nat) : Prop := c ≠ 0 ∧ c.natAbs < 1073741824 ∧ Builtin.Range.small i j c = true ∧ Builtin.Range.rangeSize i j c = n
theorem RgC.neg {i j : Int} (ha : -(2 ^ 62) ≤ i) (ha' : i < 2 ^ 62) (hb : -(2 ^ 62) ≤ j) (hb' : j < 2 ^ 62) : RgC i j (-1) (i - j).toNat :=
  ⟨by decide, by decide, PySem.W.small_down ha ha' hb hb', PySem.W.rangeSize_downNat i j⟩
def iRng3 (ta : TA) : TI := fun σ H R => ta σ H fun vs H1 => ∃ (i j c : Int) (n : Nat), vs = [.int i, .int j, .int c] ∧ RgC i j c n ∧ R (Itc i c n) H1
section
variable {X : Cx} {tg : Expr}
end
def Itv (K : PySem.W.Frag) (a : Addr) (n : Nat) : It :=
  ⟨fun i H => i < n ∧ ∃ (xs : List V) (x : V), SqL K H a xs ∧ xs[n - 1 - i]? = some x, fun i H x H' => H' = H ∧ ∀ xs, SqL K H a xs → xs[n - 1 - i]? = some x, fun i _ => n ≤ i⟩
def iRev (K : PySem.W.Frag) (ta : TA) : TI := fun σ H R => ta σ H fun vs H1 => ∃ (a : Addr) (xs : List V), vs = [.ref a] ∧ SqL K H1 a xs ∧ R (Itv K a xs.length) H1
section
variable {X : Cx} {tg : Expr}
end
def Its (x : Str) : It := ⟨fun i _ => i < x.cps.size, fun i H v H' => H' = H ∧ ∃ c, x.cps[i]? = some c ∧ v = .str ⟨#[c]⟩, fun i _ => x.cps.size ≤ i⟩
def iStr (te : TE) : TI := fun σ H R => te σ H fun v H1 => ∃ x, v = .str x ∧ R (Its x) H1
section
variable {prog : Program} {w : World} {A : Around} {E : Value → Shared → Prop} {s : Shared}
end
section
variable {X : Cx} {pins : List (Addr × Obj)} {σ : St} {H : Hp} {s : Shared} {d : Addr} {o : Obj}
end
def Itk (d : Addr) (o : Obj) (kvs : List (Key × V)) : It :=
  ⟨fun i H => H d = some (.frz o (.dK kvs)) ∧ i < kvs.length, fun i H x H' => H' = H ∧ ∃ k v, kvs[i]? = some (k, v) ∧ x = kV k, fun i H => H d = some (.frz o (.dK kvs)) ∧ kvs.length ≤ i⟩
def Itkt (d : Addr) (o : Obj) (kvs : List (List Key × V)) : It :=
  ⟨fun i H => H d = some (.frz o (.dT kvs)) ∧ i < kvs.length, fun i H x H' => H' = H ∧ ∃ (k : List Key) (v : V) (q : Addr), kvs[i]? = some (k, v) ∧ x = .ref q ∧ H q = some (.tup (k.map kV)), fun i H => H d = some (.frz o (.dT kvs)) ∧ kvs.length ≤ i⟩
def Itd (d : Addr) (o : Obj) (kvs : List (Key × V)) : It :=
  ⟨fun i H => H d = some (.frz o (.dK kvs)) ∧ i < kvs.length, fun i H x H' => H' = H ∧ ∃ k, kvs[i]? = some (k, x), fun i H => H d = some (.frz o (.dK kvs)) ∧ kvs.length ≤ i⟩
def Iti (d : Addr) (o : Obj) (kvs : List (Key × V)) : It :=
  ⟨fun i H => H d = some (.frz o (.dK kvs)) ∧ i < kvs.length, fun i H x H' => ∃ T k v, kvs[i]? = some (k, v) ∧ x = .ref T ∧ H T = none ∧ H' = upd H T (.tup [kV k, v]), fun i H => H d = some (.frz o (.dK kvs)) ∧ kvs.length ≤ i⟩
section
variable {P : Program} {w : World} {K : PySem.W.Frag} {tg : Expr} {d : Addr} {o : Obj} {es : Array DictEntry} {ep : Nat}
end
def iKeys (td : TE) : TI := fun σ H R => td σ H fun x H1 => ∃ d o, x = .ref d ∧ ((∃ kvs, H1 d = some (.frz o (.dK kvs)) ∧ R (Itk d o kvs) H1) ∨ ∃ kvs, H1 d = some (.frz o (.dT kvs)) ∧ R (Itkt d o kvs) H1)
def iVals (td : TE) : TI := fun σ H R => td σ H fun x H1 => ∃ d o kvs, x = .ref d ∧ H1 d = some (.frz o (.dK kvs)) ∧ R (Itd d o kvs) H1
def iItems (td : TE) : TI := fun σ H R => td σ H fun x H1 => ∃ d o kvs, x = .ref d ∧ H1 d = some (.frz o (.dK kvs)) ∧ R (Iti d o kvs) H1
def iKeysM (td : TE) : TI := fun σ H R => td σ H fun x H1 => ∃ d o kvs, x = .ref d ∧ H1 d = some (.frz o (.dK kvs)) ∧ R (Itk d o kvs) H1
section
variable {X : Cx} {tg e : Expr} {td : TE} {apos cpos : Pos}
end
def Ite (K : PySem.W.Frag) (a : Addr) : It :=
  ⟨fun i H => ∃ (xs : List V) (x : V), SqL K H a xs ∧ xs[i]? = some x, fun i H v H' => ∃ T x, v = .ref T ∧ H T = none ∧ H' = upd H T (.tup [.int (i : Nat), x]) ∧ ∀ xs, SqL K H a xs → xs[i]? = some x, fun i H => ∃ xs : List V, SqL K H a xs ∧ xs.length ≤ i⟩
def iEnum (K : PySem.W.Frag) (ta : TA) : TI := fun σ H R => ta σ H fun vs H1 => ∃ a xs, vs = [.ref a] ∧ SqL K H1 a xs ∧ R (Ite K a) H1
def Itz (K : PySem.W.Frag) (a b : Addr) : It :=
  ⟨fun i H => ∃ (xs ys : List V) (x y : V), SqL K H a xs ∧ SqL K H b ys ∧ xs[i]? = some x ∧ ys[i]? = some y,
    fun i H v H' => ∃ T x y, v = .ref T ∧ H T = none ∧ H' = upd H T (.tup [x, y]) ∧ (∀ xs, SqL K H a xs → xs[i]? = some x) ∧ ∀ ys, SqL K H b ys → ys[i]? = some y,
    fun i H => ∃ xs ys : List V, SqL K H a xs ∧ SqL K H b ys ∧ (xs.length ≤ i ∨ ys.length ≤ i)⟩
def iZip (K : PySem.W.Frag) (ta : TA) : TI := fun σ H R => ta σ H fun vs H1 => ∃ a b xs ys, vs = [.ref a, .ref b] ∧ SqL K H1 a xs ∧ SqL K H1 b ys ∧ R (Itz K a b) H1
end L2
section 
namespace Bits
open PySem PyProof.Rows
end Bits
end 
section 
namespace TL
open PySem PySem.Builtin PySem.Builtin.Str PySem.StrLaws
abbrev tl (x : Str) : List Nat := x.cps.toList
def pre (S l : List Nat) : Bool := l.take S.length == S
def spl (S : List Nat) : Nat → List Nat → List Nat → List (List Nat)
  | _, acc, [] => [acc]
  | 0, acc, c :: r => if pre S (c :: r) = true then acc :: spl S (S.length - 1) [] r else spl S 0 (acc ++ [c]) r
  | k + 1, acc, _ :: r => spl S k acc r
def par (S : List Nat) : List Nat → List Nat → Option (List Nat × List Nat)
  | _, [] => none
  | acc, c :: r => if pre S (c :: r) = true then some (acc, (c :: r).drop S.length) else par S (acc ++ [c]) r
theorem pre_of_head {s c : Nat} (S r : List Nat) (h : c ≠ s) : pre (s :: S) (c :: r) = false := by
  cases hp : pre (s :: S) (c :: r) with
  | false => rfl
  | true =>
    have e : (c :: r).take (s :: S).length = s :: S := eq_of_beq hp
    rw [List.length_cons, List.take_succ_cons] at e
    injection e with e1 e2
    exact absurd e1 h
theorem free_of {s : Nat} {S p q : List Nat} (h : s ∉ p) : ∀ i, i < p.length → pre (s :: S) ((p ++ q).drop i) = false := fun i hi => by
  have hlt : i < (p ++ q).length := by rw [List.length_append]; omega
  have e : (p ++ q).drop i = (p ++ q)[i] :: (p ++ q).drop (i + 1) := List.drop_eq_getElem_cons hlt
  rw [e]
  refine pre_of_head _ _ fun z => h ?_
  have e1 : (p ++ q)[i] = p[i] := List.getElem_append_left hi
  rw [← z, e1]
  exact List.getElem_mem hi
def joinL (S : List Nat) : List (List Nat) → List Nat
  | [] => []
  | [p] => p
  | p :: q :: r => p ++ (S ++ joinL S (q :: r))
def numL (n : Nat) : List Nat := (Nat.toDigits 10 n).map Char.toNat
def wstep (st : List (List Nat) × List Nat) (c : Nat) : List (List Nat) × List Nat :=
  if Unicode.isSpace c = true then (if st.2 = [] then st else (st.1 ++ [st.2], [])) else (st.1, st.2 ++ [c])
def wfin (st : List (List Nat) × List Nat) : List (List Nat) := if st.2 = [] then st.1 else st.1 ++ [st.2]
end TL
end 
namespace L2
open PySem PySem.Spec PyProof.Rows
def rNewStrs (ys : List Str) : Hp → VK → Prop := fun H Q => ∀ p, H p = none → Q (.ref p) (upd H p (.lst (ys.map V.str)))
section
variable {X : Cx} {pins : List (Addr × Obj)} {σ : St} {H : Hp} {s : Shared} {Q : VK}
end
section
variable {X : Cx}
end
section
variable {X : Cx} {o e : Expr} {to te : TE}
def tM0 (r : V → List V → Hp → VK → Prop) (to : TE) : TE := fun σ H Q => to σ H fun x H1 => (∃ a, x = .str a) ∧ r x [] H1 Q
def tM1 (r : V → List V → Hp → VK → Prop) (to te : TE) : TE := fun σ H Q => to σ H fun x H1 => (∃ a, x = .str a) ∧ te σ H1 fun y H2 => r x [y] H2 Q
end
end L2
namespace L2
open PySem PySem.Spec PyProof.Rows
section
variable {X : Cx}
end
def clipS (n d : Nat) : Option Int → Int
  | none => (d : Int)
  | some i => max 0 (min (if i < 0 then i + (n : Int) else i) (n : Int))
def cutS (z : Str) (lo hi : Option Int) : Str :=
  ⟨((z.cps.toList.drop (HT.sIx z.length 0 lo)).take (HT.sIx z.length z.length hi - HT.sIx z.length 0 lo)).toArray⟩
def rSlS : V → Option Int → Option Int → Hp → VK → Prop := fun x lo hi H Q => ∃ z, x = .str z ∧ z.length ≤ sizeLine ∧ Q (.str (cutS z lo hi)) H
end L2
namespace Att
open PySem PySem.W PySem.Calls PyProof.Rows
theorem ints_of_wellAll {P : Params} {h : Heap} : ∀ (ns : List Int) (vs : List Value), WellAll P h vs (ns.map WData.int) → IntsAre vs ns := by
  intro ns
  induction ns with
  | nil =>
    intro vs w
    rw [List.map_nil] at w
    cases w
    exact .nil
  | cons n ns ih =>
    intro vs w
    rw [List.map_cons] at w
    cases w with
    | cons a b =>
      cases a
      exact .cons _ _ (ih _ b)
theorem script_of {l : OpenLaw} {n : Nat} (hn : l.most = some n) {P : Params} {h : Heap} {args : List WData} {vals : List Value}
    (hpre : l.row.toRowW.claim.pre args = true) (hwl : WellAll P h vals args) :
    ∃ a vs ns, vals = [Value.ref a] ∧ args = [WData.list (ns.map WData.int)] ∧ h.get? a = some { cls := .type "list", data := .seq vs.toArray } ∧ IntsAre vs ns ∧ ns.length ≤ n := by
  have hsh : WShape.hasAll [] args [.list .int] = true := (pre_splitW hpre).1
  have hc : l.pre.holds [] { args := args } = true := (pre_splitW hpre).2
  obtain ⟨d, r, rfl, h1, h2⟩ := hasAllW_cons hsh
  obtain rfl := hasAllW_nil h2
  obtain ⟨xs, rfl, h3⟩ := hasW_list h1
  obtain ⟨ns, rfl⟩ := items_int h3
  have hlen : ns.length ≤ n := by
    unfold OpenLaw.pre at hc
    have h4 : (WTm.not (.lt (.lit (.int (n : Int))) (.len (.arg 0)))).holds [] { args := [.list (ns.map .int)] } = true := by
      have h4 := (holds_andW hc).1
      rw [hn] at h4
      exact h4
    have h5 := condW_of h4 (w_not (w_lt w_lit (w_len_list (w_arg rfl))))
    rw [List.length_map] at h5
    refine Nat.le_of_not_lt fun q => ?_
    have q' : (n : Int) < ((ns.length : Nat) : Int) := by omega
    first
      | (rw [decide_eq_true q'] at h5; exact absurd h5 (by decide))
      | (simp at h5; omega)
  cases hwl with
  | cons w1 w2 =>
    cases w2
    cases w1 with
    | list ho hall => exact ⟨_, _, ns, rfl, rfl, ho, ints_of_wellAll ns _ hall, hlen⟩
theorem post_true (l : OpenLaw) (args : List WData) : l.row.toRowW.claim.post args (.bool true) args = true :=
  postW_of (r := l.row.toRowW) (X := (true == true))
    (show WShape.has [] (.bool true) .bool = true by first | rfl | decide | simp [WShape.has, WShape.arms, WShape.armsAll])
    (show (WTm.eq .res (.lit (.bool true))).value [] { args := args, res := some (.bool true), after := args } = some (.bool (true == true)) from w_eq_bool (w_res rfl) w_lit) rfl
theorem attach_call {l : OpenLaw} {n : Nat} {q : Program} {loose : List Str} {XP : (Str → Option Value) → Heap → Prop} {YP : World → Heap → Prop} {d : DefRec}
    (hn : l.most = some n) (hdf : d.params.defaults = [])
    (call : ∀ (w : World) (s₀ s₁ : Shared) (mg mb : Str → Option Value) (fa : Addr) (o : Obj) (pm cd doc : Value) (a : Addr) (vs : List Value) (ns : List Int),
      Ground q loose [] XP w s₀ mg mb s₁.heap → YP w s₁.heap →
      s₁.heap.get? fa = some o → o.data = .func (docDef d.name d.params d.body d.scope pm cd doc) → s₁.heap.CodeRec cd d.name → mg d.name = some (.ref fa) →
      s₁.heap.get? a = some { cls := .type "list", data := .seq vs.toArray } → IntsAre vs ns → ns.length ≤ n → s₁.gens = #[] →
      codeAny (model l.prog w) callerA (.call (.ref fa) ⟨[.ref a], []⟩) (fun r s' => r = .ok (.ret (.bool true)) ∧ OldK s₁.heap s'.heap ∧ s'.os = s₁.os ∧ AllBare s'.gens) s₁) :
    WalkO q loose XP YP l.row.toRowW d [] (fun f vs => PySem.call f vs) := by
  intro w s₀ s₁ mg mb G Y fa o pm cd doc dV kV ho hd hcd hD hmg hg args vals as hpre hlay hrd hwl hlo
  obtain rfl : dV = .none := Dflts.none hD hdf
  obtain rfl : kV = .none := Dflts.noKw hD
  obtain ⟨a, vs, ns, rfl, rfl, hobj, hints, hlen⟩ := script_of hn hpre hwl
  refine enter_call (codeAny_mono (call w s₀ s₁ mg mb fa o pm cd doc a vs ns G Y ho (fd_plain hd) hcd hmg hobj hints hlen hg) fun r s' hq => ?_)
  obtain ⟨rfl, h2, h3, h4⟩ := hq
  exact ⟨.inl ⟨.bool true, .bool true, [], rfl, fun _ => rfl, .bool true, post_true l _, fun _ => ⟨List.Pairwise.nil, fun _ hm => (nomatch hm)⟩⟩, h2, h3, h4⟩
section
variable {prog : Program} {w : World} {A : Around} {E : Value → Shared → Prop} {s : Shared} {K : Frag}
def noObjs (h : Heap) : Heap := { h with objs := #[] }
def ledger (h : Heap) (L d : Addr) : List (Addr × Obj) := (List.range h.objs.size).filterMap fun a => if a = L ∨ a = d then none else (h.get? a).map fun o => (a, o)
end
end Att
namespace L2
open PySem PySem.Spec PyProof.Rows
theorem vals_ints : ∀ {vs : List Value} {ns : List Int}, IntsAre vs ns → Vals (ns.map V.int) vs
  | _, _, .nil => .nil
  | _, _, .cons n t h => .cons ⟨t, rfl⟩ (vals_ints h)
def Only (H : Hp) : Prop := ∀ b, H b = none ∨ ∃ o xs, H b = some (.frz o (.lst xs))
end L2
namespace L2
open PySem PySem.Spec PyProof.Rows
abbrev KOf {K : PySem.W.Frag} {h : Heap} (_ : K.In h) : PySem.W.Frag := K
end L2
namespace L2
open PySem PySem.Spec PyProof.Rows
def inClass (s : Stmt) (j : Nat) : Stmt := match s with
  | .ClassDef _ _ _ body _ _ _ _ _ _ _ => body.getD j (.Pass ⟨0, 0, 0, 0⟩)
  | _ => .Pass ⟨0, 0, 0, 0⟩
def defArgs (s : Stmt) : Arguments := match s with
  | .FunctionDef _ a _ _ _ _ _ _ _ _ => a
  | _ => { posonlyargs := [], args := [], vararg := none, kwonlyargs := [], kw_defaults := [], kwarg := none, defaults := [] }
def defBody (s : Stmt) : List Stmt := match s with
  | .FunctionDef _ _ b _ _ _ _ _ _ _ => b
  | _ => []
def defScope (s : Stmt) : Scope := match s with
  | .FunctionDef _ _ _ _ _ _ sc _ _ _ => sc
  | _ => { kind := .function, names := [], isGenerator := false, isCoroutine := false }
abbrev CX0 : CXT := fun _ _ _ _ _ _ => False
abbrev E0 : XK := fun _ _ _ => False
theorem pass0 {X : Cx} : Passes CX0 X E0 := fun _ _ _ _ _ _ _ h => h.elim
structure Fun (K : PySem.W.Frag) (x qual : Str) (st : Stmt) (f : Addr) (fd : FuncData) : Prop where
  ex : ∃ (oc : Value) (od : Option Addr) (kV doc pm : Value) (an : Option Addr) (cdv ct : Value) (osl : Array (Option Value)),
    fd = PySem.W.fnOf x qual (defArgs st) (defBody st) (defScope st) .none kV doc pm an cdv ct ∧ K.lookup f = some ⟨oc, od, .func fd, osl⟩ ∧ PySem.W.codeIn K cdv qual = true
  kp : PySem.W.keepIn K (.ref f) = true
section
variable {P : Program} {w : World} {K : PySem.W.Frag} {mg : Str → Option Value} {base : Heap}
theorem Fun.ok {x qual : Str} {st : Stmt} {f : Addr} {fd : FuncData} {N ps : List Str} {k : Nat} {sp : Sp} (F : Fun K x qual st f fd) (S : FnScope N ps (defScope st)) (len : ∀ vs H Q E, sp vs H Q E → vs.length = ps.length)
    (hbody : ∀ (cdv : Value) (A : Around) (outer : List Env) (s : Shared) (H : Hp) (vs : List V) (Q : VK) (E : XK), Room k (A.deeper (envOfC qual (defScope st) s.heap.objs.size f cdv)) → sp vs H Q E →
      ∃ t, PSs (cxOf CX0 P w K mg base N qual (defScope st) f cdv A outer s H E).nox (defBody st) t ∧ t { nx := fun _ H' => Q .non H', rt := Q } (start N vs) H) : FnOk P w K mg base CX0 (k + 1) f fd ps sp := by
  obtain ⟨oc, od, kV, doc, pm, an, cdv, ct, osl, rfl, lk, hcd⟩ := F.ex
  refine fn_of lk hcd S len fun A outer s H vs Q E hr hsp => ?_
  obtain ⟨t, h, q⟩ := hbody cdv A outer s H vs Q E hr hsp
  exact ⟨t, h.nox, q⟩
theorem Fun.binds {x qual : Str} {st : Stmt} {f : Addr} {fd : FuncData} {ps : List Str} (F : Fun K x qual st f fd)
    (h : ∀ (kV doc pm : Value) (an : Option Addr) (cdv ct : Value) (us : List Value), us.length = ps.length → bindArgs (PySem.W.fnOf x qual (defArgs st) (defBody st) (defScope st) .none kV doc pm an cdv ct) ⟨us, []⟩ = pure (ps.zip us)) : Binds K fd ps [] := by
  obtain ⟨oc, od, kV, doc, pm, an, cdv, ct, osl, rfl, lk, hcd⟩ := F.ex
  exact .all (h kV doc pm an cdv ct)
end
section
variable {X : Cx}
theorem call_lenD : CallR X (.builtin "len") (fun xs H Q => ∃ a kvs, xs = [V.ref a] ∧ H a = some (.dK kvs) ∧ Q (.int kvs.length) H) := by
  intro pins s σ H xs us Q I r h
  obtain ⟨a, kvs, rfl, ha, q⟩ := h
  obtain ⟨u, rfl, ru⟩ := vals1 r
  cases ru
  exact d_len I (.inl ha) fun t s' I' => ⟨.int kvs.length, H, I', ⟨t, rfl⟩, q⟩
end
def Same (H H' : Hp) : Prop := ∀ b o, H b = some o → H' b = some o
theorem Same.refl (H : Hp) : Same H H := fun _ _ h => h
theorem Same.trans {H H1 H2 : Hp} (a : Same H H1) (b : Same H1 H2) : Same H H2 := fun c o h => b c o (a c o h)
theorem Same.free {H H' : Hp} (e : Same H H') {l : Addr} (h : H' l = Option.none) : H l = Option.none := by
  cases q : H l with
  | none => rfl
  | some o =>
    rw [e l o q] at h
    cases h
theorem Same.seq {K : PySem.W.Frag} {H H' : Hp} {a : Addr} {xs : List V} (e : Same H H') (h : SqL K H a xs) : SqL K H' a xs := by
  rcases h with (h | ⟨o, h⟩) | h
  · exact .inl (.inl (e _ _ h))
  · exact .inl (.inr ⟨o, e _ _ h⟩)
  · exact .inr h
section
variable {κ : Type} [DecidableEq κ]
end
theorem nd_ix {α : Type} {l : List α} (hN : l.Nodup) {i j : Nat} {x : α} (a : l[i]? = some x) (b : l[j]? = some x) : i = j := by
  obtain ⟨h1, e1⟩ := List.getElem?_eq_some_iff.mp a
  obtain ⟨h2, e2⟩ := List.getElem?_eq_some_iff.mp b
  exact (List.getElem_inj hN).mp (e1.trans e2.symm)
theorem Same.made {H H1 : Hp} {x dx C : Addr} (nx : H x = Option.none) (nd : H dx = Option.none) (k : ∀ b o, (upd (upd H dx (.own x)) x (.ins C dx [])) b = some o → b ≠ x → H1 b = some o) : Same H H1 := fun b o e =>
  k b o (by rw [upd_ne (ne_of_none e nx), upd_ne (ne_of_none e nd)]; exact e) (ne_of_none e nx)
end L2
set_option Elab.async false
set_option linter.all false
set_option maxRecDepth 100000
set_option maxHeartbeats 4000000
namespace SG
open PySem PySem.Spec
theorem setGen_size (s : Shared) (g : Nat) (x : GenState) : (s.setGen g x).gens.size = s.gens.size := by
  simp [Shared.setGen]
theorem runs_gens {M : Model} {Γ : PySem.Ctx} {p : Pos} {t : Sem PySem.Fin} {fs : List Frame} {s s' : Shared} {e : End} (h : Runs M Γ p t fs s e s') : s.gens.size ≤ s'.gens.size := by
  induction h <;> (try simp only [Shared.setGen] at *) <;> (try simp at *) <;> omega
theorem returns_gens {M : Model} {Γ : PySem.Ctx} {p : Pos} {s s' : Shared} {r : Result} (h : Returns M Γ p s r s') : s.gens.size ≤ s'.gens.size := runs_gens h
theorem wakes_gens {M : Model} {Γ : PySem.Ctx} {p : Pos} {g : Nat} {r : Resume} {s s' : Shared} {res : GenResult} (h : Wakes M Γ p g r s res s') : s.gens.size ≤ s'.gens.size := by
  unfold Wakes at h
  split at h
  · exact h.elim
  · split at h
    · obtain ⟨e₁, s₁, hr, _, _, rfl⟩ := h
      have := runs_gens hr
      rw [setGen_size] at this ⊢
      exact this
    · rw [h.2]; first | exact Nat.le_refl _ | (rw [setGen_size]; exact Nat.le_refl _)
    · rw [h.2]; first | exact Nat.le_refl _ | (rw [setGen_size]; exact Nat.le_refl _)
  · obtain ⟨e₁, s₁, hr, _, _, rfl⟩ := h
    have := runs_gens hr
    rw [setGen_size] at this ⊢
    exact this
  · rw [h.2]; first | exact Nat.le_refl _ | (rw [setGen_size]; exact Nat.le_refl _)
  · rw [h.2]; first | exact Nat.le_refl _ | (rw [setGen_size]; exact Nat.le_refl _)
theorem wp_gens {α : Type} (M : Model) (Γ : PySem.Ctx) (n : Nat) (t : Sem α) : ∀ (Q : α → Pos → Shared → Prop) (E : Value → Pos → Shared → Prop) (p : Pos) (s : Shared), n ≤ s.gens.size → Sem.wp M Γ t Q E p s →
    Sem.wp M Γ t (fun a p' s' => n ≤ s'.gens.size ∧ Q a p' s') (fun e p' s' => n ≤ s'.gens.size ∧ E e p' s') p s := by
  induction t with
  | pure a => intro Q E p s hn h; exact ⟨hn, h⟩
  | raise e => intro Q E p s hn h; exact ⟨hn, h⟩
  | unsupported _ => intro Q E p s _ h; exact h
  | finish _ => intro Q E p s _ h; exact h
  | rule _ k ih => intro Q E p s hn h; exact ih () Q E p s hn h
  | «at» p' k ih => intro Q E p s hn h; exact ih () Q E p' s hn h
  | load a _ k ih => intro Q E p s hn h; obtain ⟨o, ho, h⟩ := h; exact ⟨o, ho, ih o Q E p s hn h⟩
  | update a _ f k ih => intro Q E p s hn h; exact ⟨h.1, ih () Q E p _ hn h.2⟩
  | loadIfAlive a k ih => intro Q E p s hn h; exact ih _ Q E p s hn h
  | point _ k ih => intro Q E p s hn h; exact ih () Q E p s hn h
  | register _ _ => intro Q E p s _ h; exact h
  | alloc o k ih => intro Q E p s hn h; exact ih _ Q E p _ hn h
  | fresh k ih => intro Q E p s hn h; exact ih _ Q E p _ hn h
  | ask k ih => intro Q E p s hn h; exact ih _ Q E p s hn h
  | choose src m k ih => intro Q E p s hn h; exact ⟨h.1, ih _ Q E p _ hn h.2⟩
  | os q _ k ih => intro Q E p s hn h; exact ih _ Q E p _ hn h
  | call c hd _ _ k ih => intro Q E p s hn h; obtain ⟨r, s', hr, h⟩ := h; exact ⟨r, s', hr, ih r Q E p s' (Nat.le_trans hn (returns_gens hr)) h⟩
  | handled own k ih => intro Q E p s hn h; exact ih _ Q E p s hn h
  | genState g k ih => intro Q E p s hn h; obtain ⟨st, hs, h⟩ := h; exact ⟨st, hs, ih _ Q E p s hn h⟩
  | newGen c k ih => intro Q E p s hn h; exact ih _ Q E p _ (by show n ≤ (s.gens.push _).size; rw [Array.size_push]; omega) h
  | resume g r _ k ih => intro Q E p s hn h; obtain ⟨res, s', hw, h⟩ := h; exact ⟨res, s', hw, ih res Q E p s' (Nat.le_trans hn (wakes_gens hw)) h⟩
  | yield _ _ _ _ => intro Q E p s _ h; exact h
  | stack k ih => intro Q E p s hn h; exact ih _ Q E p s hn h
  | fork _ _ => intro Q E p s _ h; exact h
  | thread k ih => intro Q E p s hn h; exact ih _ Q E p s hn h
  | await _ _ _ _ _ => intro Q E p s _ h; exact h
theorem wpAny_gens {α : Type} {M : Model} {A : Around} {s : Shared} {t : Sem α} {Q : α → Shared → Prop} {E : Value → Shared → Prop} {n : Nat} (hn : n ≤ s.gens.size) (h : wpAny M A t Q E s) :
    wpAny M A t (fun a s' => n ≤ s'.gens.size ∧ Q a s') (fun e s' => n ≤ s'.gens.size ∧ E e s') s :=
  fun Γ p hΓ => wp_gens M Γ n t _ _ p s hn (h Γ p hΓ)
end SG
set_option Elab.async false
set_option linter.all false
set_option maxRecDepth 100000
set_option maxHeartbeats 4000000
namespace SG
open PySem PySem.Spec L2
theorem weak_wipe {X : Cx} {pins : List (Addr × Obj)} {σ : L2.St} {H : Hp} {s : Shared} {vs : List Nat} (I : Inv X pins σ H s) : Inv X pins (wipe σ vs) H s :=
  I.weak (wipe_length σ vs) fun _ _ e => (wipe_some e).1
def GSt (X : Cx) (fp : List Addr) (tn : Nat → Heap → Prop) (pins : List (Addr × Obj)) (σ₀ : L2.St) (i : Nat) (H : Hp) (s : Shared) : Prop := Inv X pins σ₀ H s ∧ tn i s.heap ∧ ∀ b ∈ fp, H b = none
def GTurn (J : It) (g : TG) (tt : TT) (te : TE) (vs : List Nat) (σ₀ : L2.St) (W : Nat → Nat → Hp → Prop) (Yd : Nat → Nat → V → Hp → Prop) (Z : Hp → Prop) : Prop :=
  ∀ i m H, W i m H → (J.stop i H ∧ Z H) ∨ (J.go i H ∧ ∃ Nx : Hp → Prop, (∀ H', Nx H' → ∃ m', m' < m ∧ W (i + 1) m' H') ∧
    ∀ x H', J.yld i H x H' → g x σ₀ H' fun σ2 H2 => wipe σ2 vs = σ₀ ∧ tt σ2 H2 fun b H3 => if b = true then te σ2 H3 fun y H4 => Yd i m y H4 else Nx H3)
abbrev gcode (elt tg iter : Expr) (ifs : List Expr) (scope : Scope) (pos : Pos) (it : Addr) (env : PySem.Env) : Code := .compLoop (.GeneratorExp elt [⟨tg, iter, ifs, 0⟩] scope pos) 0 (.ref it) .none env
abbrev gcode0 (elt tg iter : Expr) (ifs : List Expr) (scope : Scope) (pos : Pos) (it : Addr) (env : PySem.Env) : Code := .compStart (.GeneratorExp elt [⟨tg, iter, ifs, 0⟩] scope pos) 0 (.ref it) .none env
def gR (X : Cx) (fp : List Addr) (tn : Nat → Heap → Prop) (pins : List (Addr × Obj)) (σ₀ : L2.St) (Z : Hp → Prop) : GenEnd := fun _ _ r s₁ => r = .ok .next ∧ ∃ H, Inv X pins σ₀ H s₁ ∧ Z H
def gY (X : Cx) (fp : List Addr) (tn : Nat → Heap → Prop) (pins : List (Addr × Obj)) (σ₀ : L2.St) (W : Nat → Nat → Hp → Prop) (Yd : Nat → Nat → V → Hp → Prop) : Protocol := fun n _ v s kap =>
  ∃ i m x H, m ≤ n ∧ GSt X fp tn pins σ₀ (i + 1) H s ∧ RelV x v ∧ Yd i m x H ∧ ∀ s'' H5 m', m' < m → GSt X fp tn pins σ₀ (i + 1) H5 s'' → W (i + 1) m' H5 → kap (.send .none) s''
section
variable {X : Cx} {tg iter elt : Expr} {ifs : List Expr} {scope : Scope} {pos : Pos} {J : It} {fp : List Addr} {it : Addr} {tn : Nat → Heap → Prop} {pins : List (Addr × Obj)} {σ₀ : L2.St} {g : TG} {tt : TT} {te : TE} {vs : List Nat}
  {W : Nat → Nat → Hp → Prop} {Yd : Nat → Nat → V → Hp → Prop} {Z : Hp → Prop} {B : Around}
theorem seg_loop (hc : X.calm = true) (hxe : X.xe = fun _ _ => False) (hco : X.env.scope.isCoroutine = false) (hA : X.A = B.over (gcode elt tg iter ifs scope pos it X.env) [])
    (T : Turn X.prog X.w X.K tg J fp it tn) (hex : ∀ b ∈ fp, b ∈ X.ex) (hpn : ∀ p ∈ X.pn ++ pins, ∀ b ∈ fp, p.1 ≠ b) (hg : PG X tg g) (ht : PTs X ifs tt) (he : PE X elt te) (tu : GTurn J g tt te vs σ₀ W Yd Z) :
    ∀ (m n i : Nat) (H : Hp) (s s₀ : Shared), m < n → GSt X fp tn pins σ₀ i H s → W i m H →
      Seg (model X.prog X.w) B (gR X fp tn pins σ₀ Z) (gY X fp tn pins σ₀ W Yd) n s₀ (gcode elt tg iter ifs scope pos it X.env) ((model X.prog X.w).den (gcode elt tg iter ifs scope pos it X.env)) [] s := by
  have cv : ∀ {α : Type} {t : Sem α} {Q : α → Shared → Prop} {E : Value → Shared → Prop} {s : Shared}, wpAny (model X.prog X.w) X.A t Q E s → wpAny (model X.prog X.w) (B.over (gcode elt tg iter ifs scope pos it X.env) []) t Q E s := fun h => by rw [← hA]; exact h
  have nof : ∀ {α : Type} {t : Sem α} {Q Q' : α → Shared → Prop} {E : Value → Shared → Prop} {s : Shared}, wpAny (model X.prog X.w) X.A t Q X.xe s → (∀ a s, Q a s → Q' a s) → wpAny (model X.prog X.w) X.A t Q' E s := fun h q => by
    rw [hxe] at h
    exact wpAny_mono h q fun _ _ z => False.elim z
  intro m
  induction m using Nat.strongRecOn with
  | ind m ih =>
  intro n i H s s₀ hmn ⟨I, st, fr⟩ w
  have stat : ∀ {pins' : List (Addr × Obj)} {σ' : L2.St} {H' : Hp} {s' : Shared}, Inv X pins' σ' H' s' → (∀ p ∈ X.pn ++ pins', ∀ b ∈ fp, p.1 ≠ b) → (∀ b ∈ fp, H' b = none) → ∀ b ∈ fp, FpOk X pins' H' b := fun {pins' σ' H' s'} I' hp hn b hb =>
    ⟨hn b hb, (I'.ok.exf b (hex b hb)).1, I'.ok.exfs b (hex b hb), .inl (hex b hb), fun x c e => (I'.ok.exf b (hex b hb)).2 x c e, fun p hp' => hp p hp' b hb⟩
  show Seg _ B _ _ _ s₀ _ ((compTurn (.GeneratorExp elt [⟨tg, iter, ifs, 0⟩] scope pos) 0 (.ref it) .none X.env).onRaise (leaving X.env)) [] s
  rw [compTurn_gen, Sem.onRaise_eq_wrap]
  refine seg_bind_wrap (wpAny_standAt ?_)
  rcases tu i m H w with ⟨stop, z⟩ | ⟨go, Nx, hNx, step⟩
  · refine seg_bind_wrap (cv (thn (T.done X rfl rfl rfl hc i pins s σ₀ H _ I (stat I hpn fr) st stop) fun r s1 ⟨hr, I1⟩ => ?_))
    subst hr
    exact seg_end (.ok .next) ⟨rfl, H, I1, z⟩
  · refine seg_bind_wrap (cv (thn (T.item X rfl rfl rfl hc i pins s σ₀ H _ I (stat I hpn fr) st go) fun r s1 ⟨u, hr, h1⟩ => ?_))
    subst hr
    refine seg_bind_wrap (cv (thn h1 fun _ s2 ⟨x, H2, I2, rx, y2, st2, fr2⟩ => ?_))
    have I2' := I2.pinned (stat I2 hpn fr2) (T.obj _ _ st2)
    refine seg_bind_wrap (cv (nof (hg _ s2 σ₀ H2 x u _ I2' rx (step x H2 y2)) fun _ s3 ⟨σ3, H3, I3, hw3, q3⟩ => ?_))
    refine seg_bind_wrap (cv (nof (ht _ s3 σ3 H3 _ I3 q3) fun ok s4 ⟨H4, I4, q4⟩ => ?_))
    -- the iterator's objects, behind
    have back : ∀ {s' : Shared} {H' : Hp} {σ' : L2.St}, wipe σ' vs = σ₀ → Inv X (pins ++ pinsAt fp s2.heap) σ' H' s' → GSt X fp tn pins σ₀ (i + 1) H' s' := fun {s' H' σ'} hw' I' => by
      refine ⟨by rw [← hw']; exact weak_wipe I'.unpinned, T.keep _ _ _ st2 fun b hb o e => (I'.pin (b, o) (List.mem_append_right _ (List.mem_append_right _ (mem_pinsAt hb e)))).1, fun b hb => ?_⟩
      obtain ⟨o, e, d⟩ := T.obj _ _ st2 b hb
      exact (I'.pin (b, o) (List.mem_append_right _ (List.mem_append_right _ (mem_pinsAt hb e)))).2.1
    cases ok with
    | false =>
      rw [if_neg Bool.false_ne_true] at q4
      obtain ⟨m', hm', w'⟩ := hNx H4 q4
      simp only [Bool.false_eq_true, if_false]
      exact seg_again rfl (ih m' hm' n (i + 1) H4 s4 s₀ (by omega) (back hw3 I4) w')
    | true =>
      rw [if_pos rfl] at q4
      simp only [if_true]
      have hy : ∀ v, yieldOut X.env v = yieldValue v := fun v => by simp only [yieldOut, hco, Bool.false_eq_true, if_false]
      simp only [hy]
      rw [Sem.bind_eq_wrap', Sem.bind_eq_wrap', Sem.wrap_wrap, Sem.wrap_wrap]
      refine seg_wrap (cv (nof (he _ s4 σ3 H4 _ I4 q4) fun y s5 ⟨y', H5, I5, ry, yd⟩ => ?_))
      obtain ⟨k, rfl⟩ : ∃ k, n = k + 1 := ⟨n - 1, by omega⟩
      refine seg_at (seg_yield rfl rfl rfl ⟨i, m, y', H5, by omega, back hw3 I5, ry, yd, fun s'' H6 m' hm' gs w' => ?_⟩)
      exact seg_again rfl (ih m' hm' k (i + 1) H6 s'' s'' (by omega) gs w')
theorem seg_start (hc : X.calm = true) (hxe : X.xe = fun _ _ => False) (hco : X.env.scope.isCoroutine = false) (hA : X.A = B.over (gcode elt tg iter ifs scope pos it X.env) [])
    (T : Turn X.prog X.w X.K tg J fp it tn) (hex : ∀ b ∈ fp, b ∈ X.ex) (hpn : ∀ p ∈ X.pn ++ pins, ∀ b ∈ fp, p.1 ≠ b) (hg : PG X tg g) (ht : PTs X ifs tt) (he : PE X elt te) (tu : GTurn J g tt te vs σ₀ W Yd Z)
    (m n i : Nat) (H : Hp) (s s₀ : Shared) (hmn : m < n) (gs : GSt X fp tn pins σ₀ i H s) (w : W i m H) :
      Seg (model X.prog X.w) B (gR X fp tn pins σ₀ Z) (gY X fp tn pins σ₀ W Yd) n s₀ (gcode0 elt tg iter ifs scope pos it X.env) ((model X.prog X.w).den (gcode0 elt tg iter ifs scope pos it X.env)) [] s := by
  have loop := seg_loop (iter := iter) (scope := scope) (pos := pos) hc hxe hco hA T hex hpn hg ht he tu m n i H s s₀ hmn gs w
  show Seg _ B _ _ _ s₀ _ ((compStart (.GeneratorExp elt [⟨tg, iter, ifs, 0⟩] scope pos) 0 (.ref it) .none X.env).onRaise (leaving X.env)) [] s
  unfold compStart
  rw [Sem.onRaise_eq_wrap]
  show Seg _ B _ _ _ s₀ _ ((ask >>= _).wrap _ _ _ _) [] s
  refine seg_bind_wrap (wpAny_askSetting ?_)
  split
  · exact seg_again rfl loop
  · first
      | exact seg_bind_wrap (wpAny_rule (seg_bind_wrap (wpAny_standAt (seg_bind_wrap (T.self _ i s _ _ gs.2.1 (seg_again rfl loop))))))
      | (refine seg_bind_wrap (wpAny_rule ?_); show Seg _ B _ _ _ s₀ _ ((standAt iter.pos >>= _).wrap _ _ _ _) [] s; exact seg_bind_wrap (wpAny_standAt (seg_bind_wrap (T.self _ i s _ _ gs.2.1 (seg_again rfl loop)))))
theorem Inv.gen {σ : L2.St} {H : Hp} {s : Shared} (I : Inv X pins σ H s) (k : Nat) {x : GenState} (hx : x.bare = true) : Inv X pins σ H (s.setGen k x) := by
  refine I.step (g' := s.gens.setIfInBounds k x) (d' := s.drawn) (t' := s.toks) (ch := []) (fun _ z => absurd z (by simp)) (fun b o _ _ _ e _ => e) (fun b o _ _ _ e _ => ⟨o.slots, e⟩) (fun _ _ _ _ n => n) (fun b o _ e => ⟨o, e⟩) (fun _ _ e => e) (fun _ _ _ e => e)
    (fun b ps e => ⟨#[], by rw [e]; simp⟩) (fun _ h => h) I.hok fun y hy => ?_
  have := Array.mem_or_eq_of_mem_setIfInBounds hy
  rcases this with h | h
  · exact I.bare y h
  · rw [h]; exact hx
structure Rdy (X : Cx) (fp : List Addr) (tn : Nat → Heap → Prop) (pins : List (Addr × Obj)) (σ₀ : L2.St) (W : Nat → Nat → Hp → Prop) (Yd : Nat → Nat → V → Hp → Prop) (Z : Hp → Prop) (B : Around) (a : Addr) (gn n i m : Nat) (H : Hp) (s : Shared) : Prop where
  st : GSt X fp tn pins σ₀ i H s
  w : W i m H
  le : m < n
  go : ∃ gs, s.gens[gn]? = some gs ∧ gs.bare = true ∧ ∀ s'' H' m', m' ≤ m → GSt X fp tn pins σ₀ i H' s'' → W i m' H' → gs.Goes (model X.prog X.w) B (gR X fp tn pins σ₀ Z) (gY X fp tn pins σ₀ W Yd) n (.send .none) s''
theorem next_gen {A : Around} {E : Value → Shared → Prop} {a : Addr} {gn n i m : Nat} {H : Hp} {s : Shared} {Q : Option Value → Shared → Prop} (hB : B = A.in1) (hh : A.handled = none) (hroom : A.depth < recursionLimit)
    (hpg : ∀ s' H' σ', Inv X pins σ' H' s' → s'.heap.IsGen a gn) (r : Rdy X fp tn pins σ₀ W Yd Z B a gn n i m H s)
    (hY : ∀ v s' x H' i' m', Yd i' m' x H' → RelV x v → GSt X fp tn pins σ₀ (i' + 1) H' s' → (∀ m'' H'' s'', m'' < m' → s''.gens = s'.gens → GSt X fp tn pins σ₀ (i' + 1) H'' s'' → W (i' + 1) m'' H'' → Rdy X fp tn pins σ₀ W Yd Z B a gn (n - 1) (i' + 1) m'' H'' s'') → Q (some v) s')
    (hZ : ∀ s' H', Inv X pins σ₀ H' s' → Z H' → Q none s') : wpAny (model X.prog X.w) A (pyNext (.ref a)) Q E s := by
  obtain ⟨gs, hgs, hb, go⟩ := r.go
  have hI := r.st.1
  have hlim := hI.nolimit
  have rn : GSt X fp tn pins σ₀ i H (s.setGen gn .running) := ⟨Inv.gen hI gn rfl, r.st.2.1, r.st.2.2⟩
  have goes := go _ H m (Nat.le_refl _) rn r.w
  have hlt := r.le
  obtain ⟨k, rfl⟩ : ∃ k, n = k + 1 := ⟨n - 1, by omega⟩
  subst hB
  have lt : gn < s.gens.size := (Array.getElem?_eq_some_iff.mp hgs).1
  refine wpAny_mono (wpAny_gens (n := gn + 1) lt (Q := fun r s' => gn + 1 ≤ s'.gens.size → Q r s') (E := fun e s' => E e s') ?_) (fun r s' h => h.2 h.1) (fun _ _ h => h.2)
  refine wpAny_pyNext_genexpQ (P := fun _ _ s₁ => ∃ H, Inv X pins σ₀ H s₁ ∧ Z H) hh hlim hroom (hpg _ _ _ hI) hgs goes ?_ ?_
  · intro v s1 gs' hb' y hsz
    obtain ⟨i', m', x, H', hle, gst, rx, yd, kap⟩ := y
    rw [setGen_size] at hsz
    refine hY v _ x H' i' m' yd rx ⟨Inv.gen gst.1 gn hb', gst.2.1, gst.2.2⟩ fun m'' H2 s2 hm'' hg2 gst2 w'' => ?_
    refine ⟨gst2, w'', by show m'' < k + 1 - 1; have : m' ≤ k := hle; omega, gs', ?_, hb', fun s'' H'' m3 hm3 gst'' w3 => kap s'' H'' m3 (by omega) gst'' w3⟩
    rw [hg2]
    show (s1.gens.setIfInBounds gn gs')[gn]? = some gs'
    rw [Array.getElem?_setIfInBounds]
    simp
    omega
  · rintro s1 ⟨H', I', z⟩ h' hk _
    refine hZ _ H' ?_ z
    have I2 := Inv.gen I' gn (x := GenState.finished) rfl
    exact I2.kept (t' := s1.toks) (h' := h') fun b o e => hk b o e
end
end SG
set_option Elab.async false
set_option linter.all false
set_option maxRecDepth 100000
set_option maxHeartbeats 4000000
namespace SG
open PySem PySem.Spec L2
abbrev gcx (X : Cx) (s : Shared) (H : Hp) (genv : PySem.Env) (fp : List Addr) (A : Around) : Cx :=
  { X with s_0 := s, H_0 := H, A := A, env := genv, outer := X.stack, stack := genv :: X.stack, ex := fp, fn := fun _ => false, calm := true, pn := [], xe := fun _ _ => False }
abbrev gobj (g : Nat) (nm qn : Value) : Obj := { cls := .type "generator", data := .fields #[.int g 0, nm, qn] }
section
variable {X : Cx} {pins : List (Addr × Obj)} {σ : L2.St} {H : Hp} {s : Shared}
theorem gen_start {scope : Scope} {own : List (Str × Nat)} {fp : List Addr} {code : Value} {bi : Addr} {A' : Around} {h' : Heap} {tk : Nat} {gs : GenState} {o : Obj} {m0 : Str → Option Value} (I : Inv X pins σ H s) (ok : BlkOk X.N X.env.scope scope own) (hN : X.N.Nodup)
    (hcell : ∀ y ∈ scope.names, y.2 ≠ .cell) (hfp : ∀ b ∈ fp, FpOk X pins H b ∧ b < s.heap.objs.size) (hbi : bi = builtinsNs) (hb : gs.bare = true) (ho : ∀ v, o.data ≠ .cell v) (hof : o.isFreed = false)
    (hA : A'.frames = some (genEnv scope (cloFrom X.env.cells scope.names []) s.heap.objs.size code bi X.env :: X.stack)) (hAh : A'.handled = none)
    (hn' : h'.Ns s.heap.objs.size m0) (hs' : Heap.SameBut s.heap.objs.size (s.heap.push { cls := .type "frame", data := .dict #[] }) h') :
    Inv (gcx X s H (genEnv scope (cloFrom X.env.cells scope.names []) s.heap.objs.size code bi X.env) fp A') [(h'.objs.size, o)] (wipe σ (own.map (·.2))) H { s with gens := s.gens.push gs, toks := tk, heap := h'.push o } := by
  generalize hg : genEnv scope (cloFrom X.env.cells scope.names []) s.heap.objs.size code bi X.env = genv at *
  have hsz : h'.objs.size = s.heap.objs.size + 1 := by rw [hs'.1, Heap.size_push]
  have kp : ∀ b u, s.heap.get? b = some u → (h'.push o).get? b = some u := fun b u e => Heap.get?_push_of_some _ (hs'.extBut b u (Nat.ne_of_lt (Heap.lt_size e)) (Heap.get?_push_of_some _ e))
  have hL : genv.locals = s.heap.objs.size := by rw [← hg]; rfl
  have hcl : genv.cells = cloFrom X.env.cells scope.names [] := by rw [← hg]; rfl
  have hsc : genv.scope = scope := by rw [← hg]; rfl
  have hfree : ∀ y ∈ scope.names, y.2 = .free → ∃ c, X.env.cells.lookup y.1 = some c := fun y hy e => by
    rcases ok.free y hy e with k | k
    · exact I.ok.has _ (.inl k)
    · exact I.ok.has _ (.inr k)
  have cm : ∀ {y c}, genv.cells.lookup y = some c → X.env.cells.lookup y = some c ∧ c < s.heap.objs.size := fun {y c} e => by
    rw [hcl] at e
    rcases cloFrom_mem (PySem.mem_of_lookup e) with hm | ⟨h1, rfl⟩
    · cases hm
    · obtain ⟨c, hc⟩ := hfree _ h1 rfl
      rw [hc]
      obtain ⟨w, z⟩ := I.cell _ _ hc
      exact ⟨rfl, z.lt⟩
  have look : ∀ {y}, scope.names.lookup y = some .free → ∃ c, genv.cells.lookup y = some c ∧ X.env.cells.lookup y = some c := fun {y} hl => by
    obtain ⟨c', e'⟩ := mem_lookup (cloFrom_has (cells := X.env.cells) (acc := []) (PySem.mem_of_lookup hl))
    rw [← hcl] at e'
    exact ⟨c', e', (cm e').1⟩
  have kcell : ∀ y, scope.names.lookup y ≠ some .cell := fun y e => hcell _ (PySem.mem_of_lookup e) rfl
  have okB : (gcx X s H genv fp A').Ok := by
    refine ⟨I.ok.mod, by show genv.scope.kind = _; rw [hsc]; exact ok.kind, by show genv.globals = _; rw [← hg]; exact I.ok.glob, by show genv.builtins = _; rw [← hg]; exact hbi, by show s.heap.objs.size ≤ genv.locals; rw [hL]; exact Nat.le_refl _,
      fun y z c e1 e2 => I.ok.inj y z c (cm e1).1 (cm e2).1, fun y hy => ?_, fun y c z e => absurd z Bool.false_ne_true, fun _ => hAh, hA, .inr ⟨rfl, by show genv.frame = some genv.locals; rw [← hg]; rfl⟩, fun b hb => ⟨?_, fun y c e z => ?_⟩, I.bs, Nat.le_trans I.ok.bsz I.sz, fun b o e hb => ?_, fun b hb z => ?_, I.stack, I.stkFree⟩
    · have hy : scope.names.lookup y = some .cell ∨ scope.names.lookup y = some .free := by
        unfold PySem.Env.kindOf at hy
        rw [← hsc]
        exact hy
      rcases hy with hy | hy
      · exact absurd hy (kcell y)
      · obtain ⟨c, h1, _⟩ := look hy
        exact ⟨c, h1⟩
    · show b ≠ genv.locals
      rw [hL]; exact Nat.ne_of_lt (hfp b hb).2
    · exact (hfp b hb).1.2.2.2.2.1 y c (cm e).1 z
    · rcases (hfp b hb).1.2.2.2.1 with z | z
      · exact I.ok.noex b o e z
      · exact absurd (Nat.lt_of_lt_of_le (Heap.lt_size e) (Nat.le_trans I.ok.bsz z)) (Nat.lt_irrefl _)
    · rcases List.mem_cons.mp (I.stkSub b z) with z | z
      · exact (hfp b hb).1.2.1 z
      · exact (hfp b hb).1.2.2.1 z
  refine ⟨okB, rfl, fun y hy => ?_, Un.kept kp, ⟨m0, ?_, fun i y av e1 e2 e3 => ?_⟩, fun y c e => ?_, ?_, fun y c e => ?_, fun p hp => ?_, I.hok.kept kp, by rw [wipe_length]; exact I.len⟩
  · rcases Array.mem_push.mp hy with h | h
    · exact I.bare y h
    · rw [h]; exact hb
  · show Heap.Ns (h'.push o) genv.locals m0
    rw [hL]
    exact hn'.push _
  · obtain ⟨e2, hne⟩ := wipe_some e2
    have e3 : Vis genv.scope y := e3
    rw [hsc] at e3
    have own : ¬ scope.names.lookup y = some .local := fun e => by
      rcases ok.own _ (PySem.mem_of_lookup e) (.inl rfl) with e' | e'
      · obtain ⟨p, hp, hpy⟩ := List.mem_map.mp e'
        have q3 := ok.ix p hp
        have : p.1 = y := hpy
        rw [this] at q3
        exact hne (List.mem_map.mpr ⟨p, hp, nodup_ix hN q3 e1⟩)
      · exact e' (List.mem_of_getElem? e1)
    have hfr : scope.names.lookup y = some .free := by
      rcases e3 with e3 | e3 | e3
      · exact absurd e3 own
      · exact absurd e3 (kcell y)
      · exact e3
    obtain ⟨m, hn, hl⟩ := I.loc
    have hvis : Vis X.env.scope y := (ok.free _ (PySem.mem_of_lookup hfr) rfl).elim (fun k => .inr (.inl k)) (fun k => .inr (.inr k))
    obtain ⟨w, r, q⟩ := hl i y av e1 e2 hvis
    refine ⟨w, r, .inr ⟨.inr (by show genv.scope.names.lookup y = _; rw [hsc]; exact hfr), ?_⟩⟩
    obtain ⟨c, h1, h2⟩ := look hfr
    rcases q with ⟨k, _⟩ | ⟨_, c', e', z⟩
    · have k : X.env.scope.names.lookup y = some .local := k
      rcases ok.free _ (PySem.mem_of_lookup hfr) rfl with k' | k' <;> rw [show X.env.scope.names.lookup y = _ from k'] at k <;> cases k
    · rw [h2] at e'; cases e'
      exact ⟨c, h1, z.keeps kp⟩
  · obtain ⟨w, z⟩ := I.cell y c (cm e).1
    exact ⟨w, z.keeps kp⟩
  · show H genv.locals = none
    rw [hL]; exact I.hok.fresh (Nat.le_refl _)
  · exact I.freeC y c (cm e).1
  · have e : p = (h'.objs.size, o) := by simpa using hp
    subst e
    refine ⟨Heap.get?_push_size _ hof, I.hok.fresh (by rw [hsz]; exact Nat.le_succ _), ?_, fun z => ?_, ho⟩
    · show h'.objs.size ≠ genv.locals
      rw [hL, hsz]; exact Nat.succ_ne_self _
    · have z : h'.objs.size ∈ frs X.stack := z
      rcases List.mem_cons.mp (I.stkSub _ z) with z | z
      · have q : X.env.locals < s.heap.objs.size := I.lt
        rw [← (show h'.objs.size = X.env.locals from z), hsz] at q
        exact absurd (Nat.lt_of_succ_lt q) (Nat.lt_irrefl _)
      · exact I.nofs (by rw [hsz]; exact Nat.le_succ _) z
theorem gen_back {genv : PySem.Env} {fp : List Addr} {A' : Around} {pins' : List (Addr × Obj)} {σ' : L2.St} {H' : Hp} {s' : Shared} (I : Inv X pins σ H s) (hfp : ∀ b ∈ fp, FpOk X pins H b) (I' : Inv (gcx X s H genv fp A') pins' σ' H' s') : Inv X pins σ H' s' :=
  I.call' (ch := fp) I'.os I'.base I'.hok I'.bare fun b hb => ⟨(hfp b hb).2.2.2.1, (hfp b hb).2.1, (hfp b hb).2.2.2.2.1, (hfp b hb).2.2.2.2.2⟩
end
end SG
set_option Elab.async false
set_option linter.all false
set_option maxRecDepth 100000
set_option maxHeartbeats 4000000
namespace SG
open PySem PySem.Spec L2
section
variable {X : Cx} {fp : List Addr} {tn : Nat → Heap → Prop} {pins : List (Addr × Obj)} {σ₀ : L2.St} {W : Nat → Nat → Hp → Prop} {Z : Hp → Prop} {Fin : Bool → Hp → Prop} {a : Addr} {gn : Nat}
def ydB (go : Bool) (W : Nat → Nat → Hp → Prop) (Fin : Bool → Hp → Prop) : Nat → Nat → V → Hp → Prop := fun i m x H => ∃ k, x = .bl k ∧ if k = go then ∃ m', m' < m ∧ W (i + 1) m' H else Fin (!go) H
theorem all_loop {A : Around} {R : Result → Shared → Prop} (hh : A.handled = none) (hroom : A.depth < recursionLimit) (hpg : ∀ s' H' σ', Inv X pins σ' H' s' → s'.heap.IsGen a gn)
    (fin : ∀ k s' H', Inv X pins σ₀ H' s' → Fin k H' → R (.ok (.ret (.bool k))) s') (hz : ∀ H, Z H → Fin true H) :
    ∀ (n i m : Nat) (H : Hp) (s : Shared), Rdy X fp tn pins σ₀ W (ydB true W Fin) Z A.in1.in1 a gn n i m H s → codeAny (model X.prog X.w) A (.builtin "all.loop" ⟨[.ref a], []⟩) R s := by
  intro n
  induction n with
  | zero => intro i m H s r; exact absurd r.le (Nat.not_lt_zero _)
  | succ n ih =>
    intro i m H s r
    refine codeAny_builtin F.entry_all_loop ?_
    rw [Around.under_plainId F.plain_all_loop _]
    show wpAny _ A.in1 (pyNext (.ref a) >>= _) _ _ s
    refine wpAny_bind (next_gen rfl hh hroom hpg r (fun v s' x H' i' m' yd rx gst rdy => ?_) fun s' H' I' z => ?_)
    · obtain ⟨k, rfl, q⟩ := yd
      cases rx
      refine wpAny_bind (wpAny_holding (wpAny_truthy_bool ?_))
      refine wpAny_bind (wpAny_letGo ?_)
      cases k with
      | true =>
        rw [if_pos rfl] at q
        obtain ⟨m2, hm2, w2⟩ := q
        simp only [if_true]
        exact wpAny_pure ⟨plainId_quiet F.plain_all_loop _, ih _ m2 H' s' (rdy m2 H' s' hm2 rfl gst w2)⟩
      | false =>
        rw [if_neg Bool.false_ne_true] at q
        simp only [Bool.false_eq_true, if_false]
        exact wpAny_bind (wpAny_rule (wpAny_pure (fin false s' H' gst.1 q)))
    · exact wpAny_bind (wpAny_rule (wpAny_pure (fin true s' H' I' (hz H' z))))
end
end SG
set_option Elab.async false
set_option linter.all false
set_option maxRecDepth 100000
set_option maxHeartbeats 4000000
namespace SG
open PySem PySem.Spec L2
def Bm (base : Heap) (mg : Str → Option Value) : Prop :=
  ∃ (bm : Addr) (o : Obj), mg "__builtins__" = some (.ref bm) ∧ bm ≠ builtinsNs ∧ base.get? bm = some o ∧ o.cls = .type "module" ∧ o.dict = some builtinsNs ∧ o.data = .plain
abbrev CodeHd := PySem.W.CodeHd
section
variable {X : Cx} {pins : List (Addr × Obj)} {σ : L2.St} {H : Hp} {s : Shared} {h' : Heap}
theorem table {P : Addr} {ps more : Array Value} {t' : Nat} (I : Inv X pins σ H s) (hP : H P = some (.tbl ps)) (k : ∀ b u, b ≠ P → s.heap.get? b = some u → h'.get? b = some u) (hn : h'.get? P = some { cls := .none, data := .fields (ps ++ more) }) :
    Inv X pins σ (upd H P (.tbl (ps ++ more))) { s with heap := h', toks := t' } := by
  have nP : ∀ b u, H b = some u → u ≠ .tbl ps → b ≠ P := fun b u e n z => by subst z; rw [hP] at e; exact n (Option.some.inj e).symm
  have nN : ∀ b, H b = none → b ≠ P := fun b e z => by subst z; rw [hP] at e; cases e
  refine I.un ⟨fun b o q n _ _ => k b o (nN b n) q, fun b o q n _ _ => ⟨o.slots, k b o (nN b n) q⟩, fun b o q n _ => by rw [upd_ne (nN b n)]; exact n, fun b o q _ => ?_,
    fun b xs q => by rw [upd_ne (nP b _ q (fun z => by cases z))]; exact q, fun b o u q => by rw [upd_ne (nP b _ q (fun z => by cases z))]; exact q, fun b qs q => ?_⟩ fun b u q => ?_
  · by_cases hb : b = P
    · subst hb; exact ⟨_, hn⟩
    · exact ⟨o, k b o hb q⟩
  · by_cases hb : b = P
    · subst hb
      rw [hP] at q; cases q
      exact ⟨more, upd_same⟩
    · exact ⟨#[], by rw [upd_ne hb, q]; simp⟩
  · by_cases hb : b = P
    · subst hb
      rw [upd_same] at q; cases q
      exact hn
    · rw [upd_ne hb] at q
      refine (I.hok b u q).stay (fun c v hc e => k c v ?_ e) (fun c e => ?_) fun c xs e => ?_
      · rcases hc with hc | hc
        · rw [hc]; exact hb
        · exact nP c _ hc (fun z => by cases z)
      · rw [upd_ne (nP c _ e (fun z => by cases z))]; exact e
      · rw [upd_ne (nP c _ e (fun z => by cases z))]; exact e
theorem code_ok {E : Value → Shared → Prop} {c P : Addr} {ps : Array Value} {pos : Pos} {qn : Str} {scope : Scope} {Q : Value → Shared → Prop} (I : Inv X pins σ H s) (hc : X.env.code = .ref c) (hcd : CodeHd X.base c P) (hP : H P = some (.tbl ps)) (ht : TriplesOk ps.toList)
    (hQ : ∀ code s' more, TriplesOk (ps ++ more).toList → Inv X pins σ (upd H P (.tbl (ps ++ more))) s' → (∀ b o, b ≠ P → s.heap.get? b = some o → s'.heap.get? b = some o) → Q code s') : wpAny (model X.prog X.w) X.A (genexprCode X.env pos qn scope) Q E s := by
  have hop : s.heap.get? P = some { cls := .none, data := .fields ps } := I.hok P _ hP
  have hcd' : CodeHd s.heap c P := hcd.keeps I.bk
  obtain ⟨o, vs, file, tf, flags, tg, inF, text, tt, ho, hcls, hd, h11', h11, h2, h7, h9, h10, hne⟩ := hcd'
  unfold genexprCode codeAt
  rw [hc, if_neg (show ¬ ((Value.ref c == Value.none) = true) from Bool.false_ne_true)]
  refine wpAny_bind (wpAny_fieldsOf ho hd ?_)
  rw [h11]
  refine wpAny_bind (wpAny_fieldsOf hop rfl ?_)
  cases hnf : codeAmong pos ps.toList with
  | some cv =>
    refine wpAny_pure (hQ cv s #[] (by simpa using ht) ?_ fun b o' _ e => e)
    have e := table (more := #[]) (t' := s.toks) I hP (h' := s.heap) (fun b u _ e => e) (by simpa using hop)
    exact e
  | none =>
    rw [h2, h7, h9, h10]
    refine wpAny_bind (wpAny_newCode fun c' P' h' tk hk hc' hP' hcode' hrec' => ?_)
    have hop' := hk _ _ hop
    refine wpAny_bind (wpAny_updateFieldsOfTheText hop' rfl ?_)
    have hget := Heap.get?_update_self (h := h') (fun o => Obj.mapFields (fun vs => if (codeAmong pos vs.toList).isSome = true then vs else
      vs ++ #[rawInt pos.line, rawInt pos.col, .ref c']) o) hop' (by first | rfl | simp [Obj.mapFields, Obj.isFreed, hnf])
    have hnew : (Obj.mapFields (fun vs => if (codeAmong pos vs.toList).isSome = true then vs else vs ++ #[rawInt pos.line, rawInt pos.col, .ref c']) { cls := .none, data := .fields ps }) =
        { cls := .none, data := .fields (ps ++ #[rawInt pos.line, rawInt pos.col, .ref c']) } := by
      simp only [Obj.mapFields, hnf]; rfl
    rw [hnew] at hget
    refine wpAny_bind (wpAny_fieldsOf hget rfl ?_)
    have hl : (ps ++ #[rawInt pos.line, rawInt pos.col, Value.ref c']).toList = ps.toList ++ [rawInt pos.line, rawInt pos.col, .ref c'] := by simp
    rw [hl, codeAmong_snoc _ ht hnf]
    refine wpAny_pure (hQ _ _ #[rawInt pos.line, rawInt pos.col, .ref c'] (by rw [hl]; exact TriplesOk_snoc _ _ _ _ ht) (table (t' := tk) (I.kept (h' := h') (t' := tk) hk) hP (fun b u hb e => ?_) hget) fun b o' hb e => ?_)
    · exact (Heap.SameBut.update ..).extBut b u hb e
    · exact (Heap.SameBut.update ..).extBut b o' hb (hk b o' e)
theorem bfor_ok {E : Value → Shared → Prop} {Q : Addr → Shared → Prop} (I : Inv X pins σ H s) (hb : Bm X.base X.mg) (h : Q builtinsNs s) : wpAny (model X.prog X.w) X.A (builtinsFor X.env.globals X.env.builtins) Q E s := by
  obtain ⟨bm, o, h1, h2, h3, h4, h5, h6⟩ := hb
  refine wpAny_builtinsFor (by rw [I.ok.glob]; exact I.mod.glob.keeps I.bk) h1 h2 (I.bk _ _ h3) h4 h5 h6 h
end
end SG
set_option Elab.async false
set_option linter.all false
set_option maxRecDepth 100000
set_option maxHeartbeats 4000000
namespace SG
open PySem PySem.Spec L2
structure Made (X : Cx) (pins : List (Addr × Obj)) (σ : L2.St) (own : List (Str × Nat)) (elt tg iter : Expr) (ifs : List Expr) (scope : Scope) (pos : Pos) (B : Around) (J : It) (H2 : Hp) (a : Addr) (s5 : Shared)
    (s2 : Shared) (genv : PySem.Env) (fp : List Addr) (it : Addr) (tn : Nat → Heap → Prop) (o : Obj) (gn : Nat) : Prop where
  back : Inv X pins σ H2 s2
  fok : ∀ b ∈ fp, FpOk X pins H2 b
  tu : Turn X.prog X.w X.K tg J fp it tn
  env : ∃ cl C code bi, genv = genEnv scope cl C code bi X.env
  inv : Inv (gcx X s2 H2 genv fp (B.over (gcode elt tg iter ifs scope pos it genv) [])) [(a, o)] (wipe σ (own.map (·.2))) H2 s5
  tn0 : tn 0 s5.heap
  gen : s5.gens[gn]? = some (.fresh (gcode0 elt tg iter ifs scope pos it genv))
  isg : ∃ nm qn, o = gobj gn nm qn
  apart : ∀ b ∈ fp, a ≠ b
section
variable {X : Cx} {pins : List (Addr × Obj)} {σ : L2.St} {H : Hp} {s : Shared} {elt tg iter : Expr} {ifs : List Expr} {scope : Scope} {own : List (Str × Nat)} {pos : Pos} {wi : TI} {B : Around}
theorem over_frames {B : Around} {l : List PySem.Env} {it : Addr} {genv : PySem.Env} (hB : B.frames = some l) : (B.over (gcode elt tg iter ifs scope pos it genv) []).frames = some (genv :: l) := by
  simp [Around.over, Code.envs, Code.isFrame, Code.env?, pushEnvs, envsOf, hB]
theorem gen_eval {c P : Addr} {Q : Value → Shared → Prop} {TC : It → Hp → Prop} (hc : X.calm = true) (hN : X.N.Nodup) (I : Inv X pins σ H s) (hi : PI X tg iter wi) (ok : BlkOk X.N X.env.scope scope own) (hcell : ∀ y ∈ scope.names, y.2 ≠ .cell)
    (h0 : scope.names.lookup (".0" : Str) = some NameKind.local) (hco : scope.isCoroutine = false) (hroom : X.A.depth < recursionLimit) (hcode : X.env.code = .ref c) (hcd : CodeHd X.base c P) (hbm : Bm X.base X.mg) (hs : ∀ x, genFold iter X.env x = pure x)
    (hB : B.frames = some X.stack) (hBh : B.handled = none)
    (h : wi σ H fun J H1 => ∃ ps, H1 P = some (.tbl ps) ∧ TriplesOk ps.toList ∧ ∀ more, TriplesOk (ps ++ more).toList → TC J (upd H1 P (.tbl (ps ++ more))))
    (hQ : ∀ J H2 a s5 s2 genv fp it tn o gn, TC J H2 → Made X pins σ own elt tg iter ifs scope pos B J H2 a s5 s2 genv fp it tn o gn → Q (.ref a) s5) :
    wpAny (model X.prog X.w) X.A (eval (.GeneratorExp elt [⟨tg, iter, ifs, 0⟩] scope pos) X.env) Q X.xe s := by
  have hfree : ∀ y ∈ scope.names, y.2 = .free → ∃ c, X.env.cells.lookup y.1 = some c := fun y hy e => by
    rcases ok.free y hy e with k | k
    · exact I.ok.has _ (.inl k)
    · exact I.ok.has _ (.inr k)
  refine wpAny_GeneratorExp_make hco (closure_ok hfree) hcell h0 ok.kind hroom (thn (hi pins s σ H _ I h) fun xv s1 hx => thn hx fun itv s2 h2 => ?_) hs
  obtain ⟨it, fp, tn, J, H1, e, I1, T, st1, f1, ps, hP, htr, hTC⟩ := h2
  subst e
  refine ⟨I1.nolimit, ?_⟩
  refine code_ok I1 hcode hcd hP htr fun code s3 more htr' I3 hk3 => ?_
  refine bfor_ok I3 hbm ?_
  intro h' hn' hs'
  have fP : ∀ b ∈ fp, b ≠ P := fun b hb z => by have := (f1 b hb).1; rw [z, hP] at this; cases this
  have f3 : ∀ b ∈ fp, FpOk X pins (upd H1 P (.tbl (ps ++ more))) b := fun b hb => ⟨by rw [upd_ne (fP b hb)]; exact (f1 b hb).1, (f1 b hb).2⟩
  have st3 : tn 0 s3.heap := T.keep _ _ _ st1 fun b hb o e => hk3 b o (fP b hb) e
  have sz3 : ∀ b ∈ fp, b < s3.heap.objs.size := fun b hb => by
    obtain ⟨o, e, _⟩ := T.obj _ _ st3 b hb
    exact Heap.lt_size e
  have hsz : h'.objs.size = s3.heap.objs.size + 1 := by rw [hs'.1, Heap.size_push]
  have I5 := gen_start (o := gobj s3.gens.size (.str "<genexpr>" (s3.toks + 1)) (.str (X.env.qual ++ "<genexpr>") (s3.toks + 1 + 1))) (tk := s3.toks + 1 + 1 + 1) (own := own) (fp := fp) (code := code)
    (gs := .fresh (gcode0 elt tg iter ifs scope pos it (genEnv scope (cloFrom X.env.cells scope.names []) s3.heap.objs.size code builtinsNs X.env)))
    (A' := B.over (gcode elt tg iter ifs scope pos it (genEnv scope (cloFrom X.env.cells scope.names []) s3.heap.objs.size code builtinsNs X.env)) [])
    I3 ok hN hcell (fun b hb => ⟨f3 b hb, sz3 b hb⟩) rfl rfl (fun v z => by cases z) rfl (over_frames hB) hBh hn' hs'
  refine hQ J _ _ _ s3 _ fp it tn _ s3.gens.size (hTC more htr') ⟨I3, f3, T, ⟨_, _, _, _, rfl⟩, I5, ?_, ?_, ⟨_, _, rfl⟩, fun b hb z => ?_⟩
  · exact T.keep _ _ _ st3 fun b hb o e => Heap.get?_push_of_some _ (hs'.extBut b o (Nat.ne_of_lt (Heap.lt_size e)) (Heap.get?_push_of_some _ e))
  · exact Array.getElem?_push_size ..
  · have := sz3 b hb
    rw [← z, hsz] at this
    exact absurd (Nat.lt_of_succ_lt this) (Nat.lt_irrefl _)
theorem Made.rdy {J : It} {H2 : Hp} {a : Addr} {s5 s2 : Shared} {genv : PySem.Env} {fp : List Addr} {it : Addr} {tn : Nat → Heap → Prop} {o : Obj} {gn : Nat} {g : TG} {tt : TT} {te : TE} {W : Nat → Nat → Hp → Prop} {Yd : Nat → Nat → V → Hp → Prop} {Z : Hp → Prop} {m : Nat}
    (M : Made X pins σ own elt tg iter ifs scope pos B J H2 a s5 s2 genv fp it tn o gn) (hco : scope.isCoroutine = false)
    (hg : PG (gcx X s2 H2 genv fp (B.over (gcode elt tg iter ifs scope pos it genv) [])) tg g) (ht : PTs (gcx X s2 H2 genv fp (B.over (gcode elt tg iter ifs scope pos it genv) [])) ifs tt) (he : PE (gcx X s2 H2 genv fp (B.over (gcode elt tg iter ifs scope pos it genv) [])) elt te)
    (tu : GTurn J g tt te (own.map (·.2)) (wipe σ (own.map (·.2))) W Yd Z) (w : W 0 m H2) :
    Rdy (gcx X s2 H2 genv fp (B.over (gcode elt tg iter ifs scope pos it genv) [])) fp tn [(a, o)] (wipe σ (own.map (·.2))) W Yd Z B a gn (m + 1) 0 m H2 s5 := by
  refine ⟨⟨M.inv, M.tn0, fun b hb => (M.fok b hb).1⟩, w, Nat.lt_succ_self _, _, M.gen, rfl, fun s'' H' m' hm gst w' => ⟨rfl, ?_⟩⟩
  have hsc : genv.scope = scope := by obtain ⟨cl, C, code, bi, rfl⟩ := M.env; rfl
  refine seg_start (X := gcx X s2 H2 genv fp (B.over (gcode elt tg iter ifs scope pos it genv) [])) rfl rfl (by show genv.scope.isCoroutine = false; rw [hsc]; exact hco) rfl M.tu (fun b hb => hb) (fun p hp b hb => ?_) hg ht he tu m' (m + 1) 0 H' s'' s'' (by omega) gst w'
  have e : p = (a, o) := by simpa using hp
  subst e
  exact M.apart b hb
theorem Made.pg {J : It} {H2 : Hp} {a : Addr} {s5 s2 : Shared} {genv : PySem.Env} {fp : List Addr} {it : Addr} {tn : Nat → Heap → Prop} {o : Obj} {gn : Nat} (M : Made X pins σ own elt tg iter ifs scope pos B J H2 a s5 s2 genv fp it tn o gn) :
    ∀ s' H' σ', Inv (gcx X s2 H2 genv fp (B.over (gcode elt tg iter ifs scope pos it genv) [])) [(a, o)] σ' H' s' → s'.heap.IsGen a gn := fun s' H' σ' I' => by
  obtain ⟨nm, qn, e⟩ := M.isg
  have q := (I'.pin (a, o) (by simp)).1
  subst e
  exact ⟨_, nm, qn, q, rfl, rfl, rfl⟩
def tTab (P : Addr) (TC : Hp → Prop) : Hp → Prop := fun H1 => ∃ ps, H1 P = some (.tbl ps) ∧ TriplesOk ps.toList ∧ ∀ more, TriplesOk (ps ++ more).toList → TC (upd H1 P (.tbl (ps ++ more)))
def gTC (g : TG) (tt : TT) (te : TE) (vs : List Nat) (k : Bool) (σ : L2.St) (Q : VK) (J : It) (H2 : Hp) : Prop :=
  ∃ (W : Nat → Nat → Hp → Prop) (Z : Hp → Prop) (Fin : Bool → Hp → Prop), (∃ m, W 0 m H2) ∧ GTurn J g tt te vs (wipe σ vs) W (ydB k W Fin) Z ∧ (∀ H, Z H → Fin k H) ∧ ∀ b H, Fin b H → Q (.bl b) H
def tAllG (wi : TI) (g : TG) (tt : TT) (te : TE) (vs : List Nat) (P : Addr) (k : Bool) : TE := fun σ H Q => wi σ H fun J H1 => tTab P (gTC g tt te vs k σ Q J) H1
variable {x : Str} {p cpos : Pos} {g : TG} {tt : TT} {te : TE} {c P : Addr} {k : Nat}
theorem pe_allG (hc : X.calm = true) (hN : X.N.Nodup) (hr : Room k X.A) (hi : PI X tg iter wi) (ok : BlkOk X.N X.env.scope scope own) (hcell : ∀ y ∈ scope.names, y.2 ≠ .cell)
    (h0 : scope.names.lookup (".0" : Str) = some NameKind.local) (hco : scope.isCoroutine = false) (hcode : X.env.code = .ref c) (hcd : CodeHd X.base c P) (hbm : Bm X.base X.mg) (hs : ∀ x, genFold iter X.env x = pure x)
    (hgl : Gl X "all") (hm : X.mg "all" = none)
    (hg : ∀ s H cl C code bi fp A', PG (gcx X s H (genEnv scope cl C code bi X.env) fp A') tg g) (ht : ∀ s H cl C code bi fp it, PTs (gcx X s H (genEnv scope cl C code bi X.env) fp (X.A.in1.in1.over (gcode elt tg iter ifs scope pos it (genEnv scope cl C code bi X.env)) [])) ifs tt)
    (he : ∀ s H cl C code bi fp it, PE (gcx X s H (genEnv scope cl C code bi X.env) fp (X.A.in1.in1.over (gcode elt tg iter ifs scope pos it (genEnv scope cl C code bi X.env)) [])) elt te) :
    PE X (.Call (.Name "all" p) [.GeneratorExp elt [⟨tg, iter, ifs, 0⟩] scope pos] [] cpos) (tAllG wi g tt te (own.map (·.2)) P true) := by
  intro pins s σ H Q I h
  have hv : bootBuiltins "all" = some (.builtin "all") := by decide +kernel
  refine wpAny_Call_Name_kw (ld_blt I hgl hm hv ?_)
  refine PyProof.Rows.callWith_builtin1 ?_ rfl rfl
  show wpAny _ _ (spliced ((false, eval (.GeneratorExp elt [⟨tg, iter, ifs, 0⟩] scope pos) X.env) :: backTo cpos (starEach [] X.env))) _ _ s
  refine Calls.spliced_cons (gen_eval (B := X.A.in1.in1) (TC := gTC g tt te (List.map (fun x : Str × Nat => x.2) own) true σ Q) hc hN I hi ok hcell h0 hco hr.depth hcode hcd hbm hs I.ok.frames hr.hd h fun J H2 a s5 s2 genv fp it tn o gn tc M => ?_)
  refine Calls.spliced_nil ?_
  obtain ⟨W, Z, Fin, ⟨m, w⟩, tu, hz, hF⟩ := tc
  obtain ⟨cl, C, code, bi, e⟩ := M.env
  subst e
  refine call_function_tree F.kind_all F.plain_all F.entry_all (F.args_all1 _) ?_
  unfold Builtin.«all»
  refine wpAny_bind (m := oneArg "all" _) (wpAny_pure ?_)
  refine wpAny_bind (wpAny_pyIter_gen (M.pg _ _ _ M.inv) ?_)
  refine wpAny_pure ⟨plainId_quiet F.plain_all_loop _, all_loop (Fin := Fin) hr.hd hr.depth M.pg (fun b s' H' I' f => ?_) hz (m + 1) 0 m H2 s5 (M.rdy hco (hg _ _ _ _ _ _ _ _) (ht _ _ _ _ _ _ _ _) (he _ _ _ _ _ _ _ _) tu w)⟩
  exact ⟨.bl b, H', gen_back M.back M.fok I', rfl, hF b H' f⟩
end
end SG
set_option Elab.async false
set_option linter.all false
set_option maxRecDepth 100000
set_option maxHeartbeats 4000000
namespace SG
open PySem PySem.Spec L2
def ydL (S : Addr) (W : Nat → Nat → Hp → Prop) : Nat → Nat → V → Hp → Prop := fun i m x H => ∃ acc, H S = some (.lst acc) ∧ acc.length < sizeLine ∧ ∃ m', m' < m ∧ W (i + 1) m' (upd H S (.lst (acc ++ [x])))
section
variable {X : Cx} {fp : List Addr} {tn : Nat → Heap → Prop} {pins : List (Addr × Obj)} {σ₀ : L2.St} {W : Nat → Nat → Hp → Prop} {Z : Hp → Prop} {a : Addr} {gn : Nat}
end
end SG
set_option Elab.async false
set_option linter.all false
set_option maxRecDepth 100000
set_option maxHeartbeats 4000000
namespace SG
open PySem PySem.Spec L2
section
variable {prog : Program} {w : World} {A : Around} {E : Value → Shared → Prop} {s : Shared} {I : Addr} {Pq : List Value → Shared → Prop}
end
end SG
set_option Elab.async false
set_option linter.all false
set_option maxRecDepth 100000
set_option maxHeartbeats 4000000
namespace SG
open PySem PySem.Spec L2
section
variable {X : Cx} {pins : List (Addr × Obj)} {σ : L2.St} {H : Hp} {s : Shared} {elt tg iter : Expr} {ifs : List Expr} {scope : Scope} {own : List (Str × Nat)} {pos : Pos} {wi : TI} {B : Around}
def gTL (g : TG) (tt : TT) (te : TE) (vs : List Nat) (σ : L2.St) (Q : VK) (J : It) (H2 : Hp) : Prop :=
  ∀ S, H2 S = none → ∃ (W : Nat → Nat → Hp → Prop) (Z : Hp → Prop), (∃ m, W 0 m (upd H2 S (.lst []))) ∧ GTurn J g tt te vs (wipe σ vs) W (ydL S W) Z ∧
    ∀ H, Z H → ∃ acc, H S = some (.lst acc) ∧ ∀ p, H p = none → Q (.ref p) (upd H p (.tup acc))
def tTupG (wi : TI) (g : TG) (tt : TT) (te : TE) (vs : List Nat) (P : Addr) : TE := fun σ H Q => wi σ H fun J H1 => tTab P (gTL g tt te vs σ Q J) H1
variable {x : Str} {p cpos : Pos} {g : TG} {tt : TT} {te : TE} {c P : Addr} {k : Nat}
end
end SG
set_option Elab.async false
set_option linter.all false
set_option maxRecDepth 100000
set_option maxHeartbeats 4000000
namespace SG
open PySem PySem.Spec L2
section
variable {P : Program} {w : World} {A : Around} {E : Value → Shared → Prop} {s : Shared}
end
end SG
set_option Elab.async false
set_option linter.all false
set_option maxRecDepth 100000
set_option maxHeartbeats 4000000
namespace SG
open PySem PySem.Spec L2
open AutoSeq1 (wpAny_loadPart')
abbrev kStart (z : Int) (t : Tok) : List (Str × Value) := [("start", .int z t)]
section
variable {P : Program} {w : World} {A : Around} {E : Value → Shared → Prop} {s : Shared}
end
end SG
set_option Elab.async false
set_option linter.all false
set_option maxRecDepth 100000
set_option maxHeartbeats 4000000
namespace SG
open PySem PySem.Spec L2
def ItE (K : PySem.W.Frag) (a : Addr) (z : Int) : It :=
  ⟨fun i H => ∃ (xs : List V) (x : V), SqT K H a xs ∧ xs[i]? = some x, fun i H v H' => ∃ T x, v = .ref T ∧ H T = none ∧ H' = upd H T (.tup [.int (z + (i : Nat)), x]) ∧ ∀ xs, SqT K H a xs → xs[i]? = some x, fun i H => ∃ xs : List V, SqT K H a xs ∧ xs.length ≤ i⟩
def iEnumT (K : PySem.W.Frag) (ta : TA) (z : Int) : TI := fun σ H R => ta σ H fun vs H1 => ∃ a xs, vs = [.ref a] ∧ SqT K H1 a xs ∧ R (ItE K a z) H1
end SG
set_option Elab.async false
set_option linter.all false
set_option maxRecDepth 100000
set_option maxHeartbeats 4000000
namespace SG
open PySem PySem.Spec L2
open PyProof.Rows (seqObj)
section
variable {P : Program} {w : World} {A : Around} {E : Value → Shared → Prop} {s : Shared}
end
def rSortT (K : PySem.W.Frag) : List V → Hp → VK → Prop := fun vs H Q => ∃ (a : Addr) (ns : List Int), vs = [V.ref a] ∧ SqT K H a (ns.map V.int) ∧ ns.length < 64 ∧ ∀ (ns' : List Int) (p : Addr), ns'.Perm ns → ns'.Pairwise (· ≤ ·) → H p = none → Q (.ref p) (upd H p (.lst (ns'.map V.int)))
end SG
set_option Elab.async false
set_option linter.all false
set_option maxRecDepth 100000
set_option maxHeartbeats 4000000
namespace SG
open PySem PySem.Spec L2
def X1 (X : Cx) : Cx := { X with A := X.A.in1, xe := fun _ _ => False }
section
variable {X : Cx} {pins : List (Addr × Obj)} {σ : L2.St} {H : Hp} {s : Shared}
theorem mem_pinsAt {fp : List Addr} {h : Heap} {b : Addr} {o : Obj} (hb : b ∈ fp) (e : h.get? b = some o) : (b, o) ∈ pinsAt fp h := List.mem_filterMap.mpr ⟨b, hb, by simp [e]⟩
abbrev Bst := Option (V × Addr × List Int)
def bl : Bst → List V
  | none => []
  | some (y, q, _) => [y, .ref q]
def MinGo (K : PySem.W.Frag) (S : Addr) (W : Nat → Bst → Nat → Hp → Prop) (i m : Nat) (b : Bst) (x : V) : VK := fun v H' => ∃ p ns, v = .ref p ∧ SqT K H' p (ns.map V.int) ∧ H' S = some (.lst (bl b)) ∧ (match b with
  | none => ∃ m', m' < m ∧ W (i + 1) (some (x, p, ns)) m' (upd H' S (.lst [x, .ref p]))
  | some (y, q, ms) => SqT K H' q (ms.map V.int) ∧ ∃ m', m' < m ∧ if HT.lexLt ns ms = true then W (i + 1) (some (x, p, ns)) m' (upd H' S (.lst [x, .ref p])) else W (i + 1) b m' H')
def MinEnd (S : Addr) (d : V) (Q : VK) (b : Bst) (H : Hp) : Prop := match b with
  | none => Q d H
  | some (y, _, _) => Q y (upd H S (.lst []))
structure MinT (K : PySem.W.Frag) (a S : Addr) (d : V) (sp : Sp) (Q : VK) (W : Nat → Bst → Nat → Hp → Prop) : Prop where
  at_ : ∀ i b m H, W i b m H → H S = some (.lst (bl b))
  go : ∀ i b m H, W i b m H → (∃ xs x, SqL K H a xs ∧ xs[i]? = some x ∧ sp [x] H (MinGo K S W i m b x) E0) ∨ ∃ xs, SqL K H a xs ∧ xs.length ≤ i ∧ MinEnd S d Q b H
variable {f a S it : Addr} {fd : FuncData} {ps : List Str} {sp : Sp} {k : Nat} {W : Nat → Bst → Nat → Hp → Prop} {Q : VK} {d : V} {dv : Value}
end
end SG
set_option Elab.async false
set_option linter.all false
set_option maxRecDepth 100000
set_option maxHeartbeats 4000000
namespace SG
open PySem PySem.Spec L2
def tMinK (K : PySem.W.Frag) (sp : Sp) (ta : TA) : TE := fun σ H Q => ta σ H fun vs H1 => ∃ a xs, vs = [.ref a] ∧ SqL K H1 a xs ∧ ∀ S, H1 S = none → ∃ W m, MinT K a S .non sp Q W ∧ W 0 none m (upd H1 S (.lst []))
section
variable {X : Cx} {f : Addr} {fd : FuncData} {ps : List Str} {sp : Sp} {k : Nat} {e : Expr} {ta : TA} {x : Str} {p p1 p2 kp1 kp2 cpos : Pos} {cn : Nat}
end
end SG
set_option Elab.async false
set_option linter.all false
set_option maxRecDepth 100000
set_option maxHeartbeats 8000000
namespace SG
open PySem PySem.Spec L2
section
variable {P : Program} {w : World} {A : Around} {E : Value → Shared → Prop} {s : Shared}
abbrev sObj (led : Bool) : Obj := { cls := .type "set", dict := none, data := .set #[] 0 (.fresh 0 0 led) }
abbrev tIt (l : Addr) : Obj := { cls := .type "tuple_iterator", data := .fields #[.ref l, .int 0 0] }
abbrev met (ns : List Int) (n : Nat) : List Int := PyProof.Rows.firstMet (fun i => ns.getD i 0) n
end
end SG
set_option Elab.async false
set_option linter.all false
set_option maxRecDepth 100000
set_option maxHeartbeats 4000000
namespace SG
open PySem PySem.Spec L2
section
variable {X : Cx} {e : Expr} {ta : TA} {p p1 pos pos1 : Pos}
def tLenSet (K : PySem.W.Frag) (ta : TA) : TE := fun σ H Q => ta σ H fun vs H1 => ∃ a ns, vs = [.ref a] ∧ SqT K H1 a (ns.map V.int) ∧ ns.length < 64 ∧ Q (.int ((met ns ns.length).length : Nat)) H1
def tListR (ta : TA) : TE := fun σ H Q => ta σ H fun vs H1 => ∃ j : Int, vs = [.int j] ∧ 0 ≤ j ∧ j ≤ 1000 ∧ ∀ l, H1 l = none → Q (.ref l) (upd H1 l (.lst ((List.range j.toNat).map fun i => V.int (i : Nat))))
end
end SG
set_option Elab.async false
set_option linter.all false
set_option maxRecDepth 100000
set_option maxHeartbeats 4000000
namespace SH
open PySem PySem.Spec L2
inductive D where
  | non | bl (b : Bool) | int (i : Int) | str (s : Str) | tup (xs : List D) | con (xs : List D) | loc (l : Nat) | ext (k : Nat) | ty (n : String)
inductive Ob where
  | lst (xs : List D) | dct (kvs : List (Key × D)) | dtt (kvs : List (List Key × D)) | ins (fs : List (Str × D))
abbrev Store := List Ob
inductive R (α : Type) where
  | ok (a : α) (S : Store) | exc (c : Nat) (S : Store) | bad
abbrev M (α : Type) := Store → R α
abbrev Env := List (Option D)
def R.bind {α β : Type} (r : R α) (f : α → M β) : R β := match r with
  | .ok a S => f a S
  | .exc c S => .exc c S
  | .bad => .bad
def M.bind {α β : Type} (m : M α) (f : α → M β) : M β := fun S => (m S).bind f
def M.pure {α : Type} (a : α) : M α := fun S => .ok a S
def M.fail {α : Type} : M α := fun _ => .bad
def SqF (K : PySem.W.Frag) (H : Hp) (a : Addr) (xs : List V) : Prop :=
  (∃ o, H a = some (.frz o (.lst xs))) ∨
    ∃ (o : Obj) (its : Array Value) (n : Nat), K.lookup a = some o ∧ o.cls = .type "list" ∧ o.dict = none ∧ o.data = .seq its n ∧ its.size ≤ sizeLine ∧ Vals xs its.toList
theorem SqF.sq {K : PySem.W.Frag} {H : Hp} {a : Addr} {xs : List V} (h : SqF K H a xs) : SqL K H a xs := h.elim (fun h => .inl (.inr h)) .inr
def imm : HO → Bool
  | .tup _ => true | .frz _ _ => true | .ext _ => true | .met _ _ => true | .rng _ _ => true
  | _ => false
structure Ip where
  ext : Hp → Nat → V → Prop
  mono : ∀ {H H' : Hp} {k : Nat} {v : V}, (∀ b o, H b = some o → imm o = true → H' b = some o) → ext H k v → ext H' k v
  tabs : List Addr
  cls : Nat → Value
  tok : Addr → Array Value → Hp → Prop
  tmono : ∀ {H H' : Hp} {P : Addr} {ps : Array Value}, (∀ b o, H b = some o → imm o = true → H' b = some o) → tok P ps H → tok P ps H'
  tzero : ∀ {H : Hp} {P : Addr}, tok P #[] H
  free : Addr → Prop
  tfree : ∀ {P : Addr}, free P → ∀ ps H, tok P ps H
mutual
inductive RD (J : Ip) (K : PySem.W.Frag) (H : Hp) (μ : List Addr) : D → V → Prop where
  | non : RD J K H μ .non .non
  | bl (b : Bool) : RD J K H μ (.bl b) (.bl b)
  | int (i : Int) : RD J K H μ (.int i) (.int i)
  | str (s : Str) : RD J K H μ (.str s) (.str s)
  | tup {ds : List D} {vs : List V} {a : Addr} (h : SqT K H a vs) (r : RDs J K H μ ds vs) : RD J K H μ (.tup ds) (.ref a)
  | con {ds : List D} {vs : List V} {a : Addr} (h : SqF K H a vs) (r : RDs J K H μ ds vs) : RD J K H μ (.con ds) (.ref a)
  | loc {l : Nat} {a : Addr} (h : μ[l]? = some a) : RD J K H μ (.loc l) (.ref a)
  | ext {k : Nat} {v : V} (h : J.ext H k v) : RD J K H μ (.ext k) v
  | ty (n : String) : RD J K H μ (.ty n) (.ty n)
inductive RDs (J : Ip) (K : PySem.W.Frag) (H : Hp) (μ : List Addr) : List D → List V → Prop where
  | nil : RDs J K H μ [] []
  | cons {d : D} {v : V} {ds : List D} {vs : List V} (h : RD J K H μ d v) (r : RDs J K H μ ds vs) : RDs J K H μ (d :: ds) (v :: vs)
end
structure Ext (H : Hp) (μ : List Addr) (H' : Hp) (μ' : List Addr) : Prop where
  pre : ∃ r, μ' = μ ++ r
  new : ∀ a ∈ μ', a ∈ μ ∨ H a = none
  imm : ∀ b o, H b = some o → imm o = true → H' b = some o
  keep : ∀ b o, H b = some o → b ∉ μ → H' b = some o ∨ ∃ ps more, o = .tbl ps ∧ H' b = some (.tbl (ps ++ more))
theorem Ext.refl {H : Hp} {μ : List Addr} : Ext H μ H μ := ⟨⟨[], by simp⟩, fun _ h => .inl h, fun _ _ h _ => h, fun _ _ h _ => .inl h⟩
theorem Ext.trans {H H1 H2 : Hp} {μ μ1 μ2 : List Addr} (a : Ext H μ H1 μ1) (b : Ext H1 μ1 H2 μ2) : Ext H μ H2 μ2 := by
  obtain ⟨r, rfl⟩ := a.pre
  obtain ⟨r', rfl⟩ := b.pre
  have nn : ∀ {x o}, H x = some o → x ∉ μ → x ∉ μ ++ r := fun {x o} e n m => by
    rcases a.new x m with z | z
    · exact n z
    · rw [e] at z; cases z
  refine ⟨⟨r ++ r', by simp⟩, fun x hx => ?_, fun x o e i => b.imm x o (a.imm x o e i) i, fun x o e n => ?_⟩
  · rcases b.new x hx with z | z
    · rcases a.new x z with y | y
      · exact .inl y
      · exact .inr y
    · by_cases hm : x ∈ μ
      · exact .inl hm
      · refine .inr ?_
        cases q : H x with
        | none => rfl
        | some o =>
          rcases a.keep x o q hm with y | ⟨ps, more, _, y⟩
          · rw [y] at z; cases z
          · rw [y] at z; cases z
  · rcases a.keep x o e n with y | ⟨ps, more, rfl, y⟩
    · exact b.keep x o y (nn e n)
    · rcases b.keep x _ y (nn e n) with z | ⟨ps', more', e', z⟩
      · exact .inr ⟨ps, more, rfl, z⟩
      · cases e'
        exact .inr ⟨ps, more ++ more', rfl, by rw [z, Array.append_assoc]⟩
theorem SqT.imm {K : PySem.W.Frag} {H H' : Hp} {a : Addr} {xs : List V} (k : ∀ b o, H b = some o → imm o = true → H' b = some o) (h : SqT K H a xs) : SqT K H' a xs := by
  rcases h with (h | ⟨o, h⟩) | h
  · exact .inl (.inl (k _ _ h rfl))
  · exact .inl (.inr ⟨o, k _ _ h rfl⟩)
  · exact .inr h
theorem SqF.imm {K : PySem.W.Frag} {H H' : Hp} {a : Addr} {xs : List V} (k : ∀ b o, H b = some o → imm o = true → H' b = some o) (h : SqF K H a xs) : SqF K H' a xs := by
  rcases h with ⟨o, h⟩ | h
  · exact .inl ⟨o, k _ _ h rfl⟩
  · exact .inr h
section
variable {J : Ip} {K : PySem.W.Frag} {H H' : Hp} {μ μ' : List Addr}
mutual
theorem RD.mono0 (hi : ∀ b o, H b = some o → imm o = true → H' b = some o) (hp : ∃ r, μ' = μ ++ r) : ∀ {d : D} {v : V}, RD J K H μ d v → RD J K H' μ' d v
  | _, _, .non => .non
  | _, _, .bl b => .bl b
  | _, _, .int i => .int i
  | _, _, .str s => .str s
  | _, _, .tup h r => .tup (SqT.imm hi h) (RDs.mono0 hi hp r)
  | _, _, .con h r => .con (SqF.imm hi h) (RDs.mono0 hi hp r)
  | _, _, .loc h => .loc (by
      obtain ⟨r, rfl⟩ := hp
      rw [List.getElem?_append_left (List.getElem?_eq_some_iff.mp h).1]; exact h)
  | _, _, .ext h => .ext (J.mono hi h)
  | _, _, .ty n => .ty n
theorem RDs.mono0 (hi : ∀ b o, H b = some o → imm o = true → H' b = some o) (hp : ∃ r, μ' = μ ++ r) : ∀ {ds : List D} {vs : List V}, RDs J K H μ ds vs → RDs J K H' μ' ds vs
  | _, _, .nil => .nil
  | _, _, .cons h r => .cons (RD.mono0 hi hp h) (RDs.mono0 hi hp r)
end
theorem RD.mono (e : Ext H μ H' μ') {d : D} {v : V} (r : RD J K H μ d v) : RD J K H' μ' d v := r.mono0 e.imm e.pre
theorem RDs.mono (e : Ext H μ H' μ') {ds : List D} {vs : List V} (r : RDs J K H μ ds vs) : RDs J K H' μ' ds vs := r.mono0 e.imm e.pre
theorem RDs.length : ∀ {ds : List D} {vs : List V}, RDs J K H μ ds vs → ds.length = vs.length
  | _, _, .nil => rfl
  | _, _, .cons _ r => by rw [List.length_cons, List.length_cons, RDs.length r]
theorem RDs.get : ∀ {ds : List D} {vs : List V} {i : Nat} {d : D}, RDs J K H μ ds vs → ds[i]? = some d → ∃ v, vs[i]? = some v ∧ RD J K H μ d v
  | _, _, _, _, .nil, e => by simp at e
  | _, _, 0, _, .cons h _, e => by simp at e; subst e; exact ⟨_, rfl, h⟩
  | _, _, i + 1, d, .cons _ r, e => by
    obtain ⟨v, h1, h2⟩ := RDs.get (i := i) (d := d) r (by simpa using e)
    exact ⟨v, by simpa using h1, h2⟩
theorem RDs.append : ∀ {ds es : List D} {vs us : List V}, RDs J K H μ ds vs → RDs J K H μ es us → RDs J K H μ (ds ++ es) (vs ++ us)
  | _, _, _, _, .nil, s => s
  | _, _, _, _, .cons h r, s => .cons h (RDs.append r s)
theorem RDs.set {d : D} {v : V} (h : RD J K H μ d v) : ∀ {ds : List D} {vs : List V} (i : Nat), RDs J K H μ ds vs → RDs J K H μ (ds.set i d) (vs.set i v)
  | _, _, _, .nil => .nil
  | _, _, 0, .cons _ r => .cons h r
  | _, _, i + 1, .cons q r => .cons q (RDs.set h i r)
theorem RDs.take : ∀ {ds : List D} {vs : List V} (n : Nat), RDs J K H μ ds vs → RDs J K H μ (ds.take n) (vs.take n)
  | _, _, 0, _ => .nil
  | _, _, _ + 1, .nil => .nil
  | _, _, n + 1, .cons h r => .cons h (RDs.take n r)
theorem RDs.drop : ∀ {ds : List D} {vs : List V} (n : Nat), RDs J K H μ ds vs → RDs J K H μ (ds.drop n) (vs.drop n)
  | _, _, 0, r => r
  | _, _, _ + 1, .nil => .nil
  | _, _, n + 1, .cons _ r => RDs.drop n r
theorem RDs.reverse {ds : List D} {vs : List V} (r : RDs J K H μ ds vs) : RDs J K H μ ds.reverse vs.reverse := by
  have go : ∀ {ds : List D} {vs : List V}, RDs J K H μ ds vs → RDs J K H μ ds.reverse vs.reverse := by
    intro ds
    induction ds with
    | nil => intro vs r; cases r; exact .nil
    | cons d ds ih =>
      intro vs r
      cases r with
      | cons h r =>
        rw [List.reverse_cons, List.reverse_cons]
        exact RDs.append (ih r) (.cons h .nil)
  exact go r
end
def flds : List Str := ["hues", "all_sums", "pairs"]
def fldOk (K : PySem.W.Frag) (C : Addr) (f : Str) : Prop := f ∈ flds → NoAttr K C f
def ObR (J : Ip) (K : PySem.W.Frag) (H : Hp) (μ : List Addr) (a : Addr) : Ob → Prop
  | .lst xs => ∃ vs, H a = some (.lst vs) ∧ RDs J K H μ xs vs
  | .dct kvs => ∃ vs, H a = some (.dK vs) ∧ kvs.map (·.1) = vs.map (·.1) ∧ RDs J K H μ (kvs.map (·.2)) (vs.map (·.2))
  | .dtt kvs => ∃ vs, H a = some (.dT vs) ∧ kvs.map (·.1) = vs.map (·.1) ∧ RDs J K H μ (kvs.map (·.2)) (vs.map (·.2))
  | .ins fs => ∃ vs, (∃ C dx, H a = some (.ins C dx vs) ∧ Cls K C ∧ ∀ f : Str, fldOk K C f) ∧ fs.map (·.1) = vs.map (·.1) ∧ RDs J K H μ (fs.map (·.2)) (vs.map (·.2))
structure Rp (J : Ip) (K : PySem.W.Frag) (H : Hp) (μ : List Addr) (S : Store) : Prop where
  len : μ.length = S.length
  nd : μ.Nodup
  obj : ∀ (l : Nat) (a : Addr) (o : Ob), μ[l]? = some a → S[l]? = some o → ObR J K H μ a o
  tab : ∀ P ∈ J.tabs, ∃ ps, H P = some (.tbl ps) ∧ TriplesOk ps.toList ∧ J.tok P ps H
structure EnvR (J : Ip) (K : PySem.W.Frag) (H : Hp) (μ : List Addr) (ρ : Env) (σ : L2.St) : Prop where
  len : ρ.length = σ.length
  get : ∀ (i : Nat) (d : D), ρ[i]? = some (some d) → ∃ v, σ[i]? = some (some v) ∧ RD J K H μ d v
section
variable {J : Ip} {K : PySem.W.Frag} {H H' : Hp} {μ μ' : List Addr}
theorem EnvR.mono {ρ : Env} {σ : L2.St} (e : Ext H μ H' μ') (r : EnvR J K H μ ρ σ) : EnvR J K H' μ' ρ σ := ⟨r.len, fun i d h =>
  let ⟨v, h1, h2⟩ := r.get i d h
  ⟨v, h1, h2.mono e⟩⟩
theorem ObR.stay {a : Addr} {o : Ob} (e : Ext H μ H' μ') (hs : H' a = H a) (x : ObR J K H μ a o) : ObR J K H' μ' a o := by
  cases o with
  | lst xs => obtain ⟨vs, h, r⟩ := x; exact ⟨vs, hs.trans h, r.mono e⟩
  | dct kvs => obtain ⟨vs, h, k, r⟩ := x; exact ⟨vs, hs.trans h, k, r.mono e⟩
  | dtt kvs => obtain ⟨vs, h, k, r⟩ := x; exact ⟨vs, hs.trans h, k, r.mono e⟩
  | ins fs => obtain ⟨vs, ⟨C, dx, h, c⟩, k, r⟩ := x; exact ⟨vs, ⟨C, dx, hs.trans h, c⟩, k, r.mono e⟩
end
abbrev XE := Nat → Hp → Prop
def Post (J : Ip) (K : PySem.W.Frag) (E : XE) (H : Hp) (μ : List Addr) (r : R D) (Q : VK) : Prop := match r with
  | .ok d S' => ∀ μ' H' v, Ext H μ H' μ' → Rp J K H' μ' S' → RD J K H' μ' d v → Q v H'
  | .exc c S' => ∀ μ' H', Ext H μ H' μ' → Rp J K H' μ' S' → E c H'
  | .bad => False
def PostA (J : Ip) (K : PySem.W.Frag) (E : XE) (H : Hp) (μ : List Addr) (r : R (List D)) (Q : List V → Hp → Prop) : Prop := match r with
  | .ok ds S' => ∀ μ' H' vs, Ext H μ H' μ' → Rp J K H' μ' S' → RDs J K H' μ' ds vs → Q vs H'
  | .exc c S' => ∀ μ' H', Ext H μ H' μ' → Rp J K H' μ' S' → E c H'
  | .bad => False
def PostB (J : Ip) (K : PySem.W.Frag) (E : XE) (H : Hp) (μ : List Addr) (r : R Bool) (Q : Bool → Hp → Prop) : Prop := match r with
  | .ok b S' => ∀ μ' H', Ext H μ H' μ' → Rp J K H' μ' S' → Q b H'
  | .exc c S' => ∀ μ' H', Ext H μ H' μ' → Rp J K H' μ' S' → E c H'
  | .bad => False
def tM (J : Ip) (K : PySem.W.Frag) (E : XE) (m : Env → M D) : TE := fun σ H Q => ∃ μ S ρ, Rp J K H μ S ∧ EnvR J K H μ ρ σ ∧ Post J K E H μ (m ρ S) Q
def tA (J : Ip) (K : PySem.W.Frag) (E : XE) (m : Env → M (List D)) : TA := fun σ H Q => ∃ μ S ρ, Rp J K H μ S ∧ EnvR J K H μ ρ σ ∧ PostA J K E H μ (m ρ S) Q
def tT (J : Ip) (K : PySem.W.Frag) (E : XE) (m : Env → M Bool) : TT := fun σ H Q => ∃ μ S ρ, Rp J K H μ S ∧ EnvR J K H μ ρ σ ∧ PostB J K E H μ (m ρ S) Q
section
variable {J : Ip} {K : PySem.W.Frag} {E : XE} {H H' : Hp} {μ μ' : List Addr}
theorem Post.later {r : R D} {Q : VK} (e : Ext H μ H' μ') (p : Post J K E H μ r Q) : Post J K E H' μ' r Q := by
  cases r with
  | ok d S => exact fun μ2 H2 v x => p μ2 H2 v (e.trans x)
  | exc c S => exact fun μ2 H2 x => p μ2 H2 (e.trans x)
  | bad => exact p
theorem PostA.later {r : R (List D)} {Q : List V → Hp → Prop} (e : Ext H μ H' μ') (p : PostA J K E H μ r Q) : PostA J K E H' μ' r Q := by
  cases r with
  | ok d S => exact fun μ2 H2 v x => p μ2 H2 v (e.trans x)
  | exc c S => exact fun μ2 H2 x => p μ2 H2 (e.trans x)
  | bad => exact p
theorem PostB.later {r : R Bool} {Q : Bool → Hp → Prop} (e : Ext H μ H' μ') (p : PostB J K E H μ r Q) : PostB J K E H' μ' r Q := by
  cases r with
  | ok d S => exact fun μ2 H2 x => p μ2 H2 (e.trans x)
  | exc c S => exact fun μ2 H2 x => p μ2 H2 (e.trans x)
  | bad => exact p
theorem Post.mono {r : R D} {Q Q' : VK} (p : Post J K E H μ r Q) (h : ∀ v H', Q v H' → Q' v H') : Post J K E H μ r Q' := by
  cases r with
  | ok d S => exact fun μ2 H2 v x y z => h _ _ (p μ2 H2 v x y z)
  | exc c S => exact p
  | bad => exact p
theorem Post.step {r : R D} {f : D → M D} {Q : VK} (p : Post J K E H μ (r.bind f) Q) :
    Post J K E H μ r fun v H1 => ∃ μ1 S1 d, Ext H μ H1 μ1 ∧ Rp J K H1 μ1 S1 ∧ RD J K H1 μ1 d v ∧ Post J K E H1 μ1 (f d S1) Q := by
  cases r with
  | ok d S => exact fun μ1 H1 v e rp rd => ⟨μ1, S, d, e, rp, rd, Post.later e p⟩
  | exc c S => exact p
  | bad => exact p
theorem Post.stepB {r : R Bool} {f : Bool → M D} {Q : VK} (p : Post J K E H μ (r.bind f) Q) :
    PostB J K E H μ r fun b H1 => ∃ μ1 S1, Ext H μ H1 μ1 ∧ Rp J K H1 μ1 S1 ∧ Post J K E H1 μ1 (f b S1) Q := by
  cases r with
  | ok d S => exact fun μ1 H1 e rp => ⟨μ1, S, e, rp, Post.later e p⟩
  | exc c S => exact p
  | bad => exact p
theorem PostB.step {r : R D} {f : D → M Bool} {Q : Bool → Hp → Prop} (p : PostB J K E H μ (r.bind f) Q) :
    Post J K E H μ r fun v H1 => ∃ μ1 S1 d, Ext H μ H1 μ1 ∧ Rp J K H1 μ1 S1 ∧ RD J K H1 μ1 d v ∧ PostB J K E H1 μ1 (f d S1) Q := by
  cases r with
  | ok d S => exact fun μ1 H1 v e rp rd => ⟨μ1, S, d, e, rp, rd, PostB.later e p⟩
  | exc c S => exact p
  | bad => exact p
theorem PostB.stepB {r : R Bool} {f : Bool → M Bool} {Q : Bool → Hp → Prop} (p : PostB J K E H μ (r.bind f) Q) :
    PostB J K E H μ r fun b H1 => ∃ μ1 S1, Ext H μ H1 μ1 ∧ Rp J K H1 μ1 S1 ∧ PostB J K E H1 μ1 (f b S1) Q := by
  cases r with
  | ok d S => exact fun μ1 H1 e rp => ⟨μ1, S, e, rp, PostB.later e p⟩
  | exc c S => exact p
  | bad => exact p
theorem Post.stepA {r : R (List D)} {f : List D → M D} {Q : VK} (p : Post J K E H μ (r.bind f) Q) :
    PostA J K E H μ r fun vs H1 => ∃ μ1 S1 ds, Ext H μ H1 μ1 ∧ Rp J K H1 μ1 S1 ∧ RDs J K H1 μ1 ds vs ∧ Post J K E H1 μ1 (f ds S1) Q := by
  cases r with
  | ok d S => exact fun μ1 H1 v e rp rd => ⟨μ1, S, d, e, rp, rd, Post.later e p⟩
  | exc c S => exact p
  | bad => exact p
theorem PostA.step {r : R D} {f : D → M (List D)} {Q : List V → Hp → Prop} (p : PostA J K E H μ (r.bind f) Q) :
    Post J K E H μ r fun v H1 => ∃ μ1 S1 d, Ext H μ H1 μ1 ∧ Rp J K H1 μ1 S1 ∧ RD J K H1 μ1 d v ∧ PostA J K E H1 μ1 (f d S1) Q := by
  cases r with
  | ok d S => exact fun μ1 H1 v e rp rd => ⟨μ1, S, d, e, rp, rd, PostA.later e p⟩
  | exc c S => exact p
  | bad => exact p
theorem PostA.stepA {r : R (List D)} {f : List D → M (List D)} {Q : List V → Hp → Prop} (p : PostA J K E H μ (r.bind f) Q) :
    PostA J K E H μ r fun vs H1 => ∃ μ1 S1 ds, Ext H μ H1 μ1 ∧ Rp J K H1 μ1 S1 ∧ RDs J K H1 μ1 ds vs ∧ PostA J K E H1 μ1 (f ds S1) Q := by
  cases r with
  | ok d S => exact fun μ1 H1 v e rp rd => ⟨μ1, S, d, e, rp, rd, PostA.later e p⟩
  | exc c S => exact p
  | bad => exact p
end
end SH
set_option Elab.async false
set_option linter.all false
set_option maxRecDepth 100000
set_option maxHeartbeats 4000000
namespace SH
open PySem PySem.Spec L2
section
variable {J : Ip} {K : PySem.W.Frag} {E : XE} {H H' : Hp} {μ μ' : List Addr} {S : Store}
theorem ObR.some {a : Addr} {o : Ob} (x : ObR J K H μ a o) : ∃ u, H a = some u ∧ imm u = false ∧ ∀ ps, u ≠ .tbl ps := by
  cases o with
  | lst xs => obtain ⟨vs, h, _⟩ := x; exact ⟨_, h, rfl, fun _ z => by cases z⟩
  | dct kvs => obtain ⟨vs, h, _⟩ := x; exact ⟨_, h, rfl, fun _ z => by cases z⟩
  | dtt kvs => obtain ⟨vs, h, _⟩ := x; exact ⟨_, h, rfl, fun _ z => by cases z⟩
  | ins fs => obtain ⟨vs, ⟨C, dx, h, _⟩, _⟩ := x; exact ⟨_, h, rfl, fun _ z => by cases z⟩
theorem Rp.at (rp : Rp J K H μ S) {a : Addr} (h : a ∈ μ) : ∃ u, H a = some u ∧ imm u = false ∧ ∀ ps, u ≠ .tbl ps := by
  obtain ⟨l, hl, e⟩ := List.getElem_of_mem h
  have e1 : μ[l]? = some a := by rw [List.getElem?_eq_getElem hl, e]
  have hs : l < S.length := by rw [← rp.len]; exact hl
  exact (rp.obj l a S[l] e1 (List.getElem?_eq_getElem hs)).some
theorem Rp.fresh (rp : Rp J K H μ S) {p : Addr} (h : H p = none) : p ∉ μ := fun m => by
  obtain ⟨u, e, _⟩ := rp.at m
  rw [h] at e; cases e
theorem Ext.laid {p : Addr} {o : HO} (h : H p = none) : Ext H μ (upd H p o) μ :=
  ⟨⟨[], by simp⟩, fun _ m => .inl m, fun b u e _ => by rw [upd_ne (ne_of_none e h)]; exact e, fun b u e _ => .inl (by rw [upd_ne (ne_of_none e h)]; exact e)⟩
theorem Rp.laid {p : Addr} {o : HO} (rp : Rp J K H μ S) (h : H p = none) : Rp J K (upd H p o) μ S := by
  refine ⟨rp.len, rp.nd, fun l a ob e1 e2 => (rp.obj l a ob e1 e2).stay (Ext.laid h) ?_, fun P hP => ?_⟩
  · rw [upd_ne]
    rintro rfl
    exact rp.fresh h (List.mem_of_getElem? e1)
  · obtain ⟨ps, e, t, k⟩ := rp.tab P hP
    exact ⟨ps, by rw [upd_ne (ne_of_none e h)]; exact e, t, J.tmono (Ext.laid (μ := μ) h).imm k⟩
theorem Ext.alloc {p : Addr} {o : HO} (h : H p = none) : Ext H μ (upd H p o) (μ ++ [p]) :=
  ⟨⟨[p], rfl⟩, fun a m => (List.mem_append.mp m).elim .inl fun z => .inr (by rw [List.mem_singleton.mp z]; exact h), fun b u e _ => by rw [upd_ne (ne_of_none e h)]; exact e, fun b u e _ => .inl (by rw [upd_ne (ne_of_none e h)]; exact e)⟩
theorem Rp.alloc {p : Addr} {o : HO} {ob : Ob} (rp : Rp J K H μ S) (h : H p = none) (new : ObR J K (upd H p o) (μ ++ [p]) p ob) : Rp J K (upd H p o) (μ ++ [p]) (S ++ [ob]) := by
  have hp := rp.fresh h
  refine ⟨by rw [List.length_append, List.length_append, rp.len]; rfl, ?_, fun l a ob' e1 e2 => ?_, fun P hP => ?_⟩
  · refine List.nodup_append.mpr ⟨rp.nd, by simp, fun a ha b hb => ?_⟩
    rw [List.mem_singleton.mp hb]
    rintro rfl
    exact hp ha
  · by_cases hl : l < μ.length
    · rw [List.getElem?_append_left hl] at e1
      rw [List.getElem?_append_left (by rw [← rp.len]; exact hl)] at e2
      refine (rp.obj l a ob' e1 e2).stay (Ext.alloc h) ?_
      rw [upd_ne]
      rintro rfl
      exact hp (List.mem_of_getElem? e1)
    · have hl' : l = μ.length := by
        have := (List.getElem?_eq_some_iff.mp e1).1
        rw [List.length_append] at this
        simp at this
        omega
      subst hl'
      rw [List.getElem?_append_right (Nat.le_refl _)] at e1
      rw [List.getElem?_append_right (by rw [rp.len]; exact Nat.le_refl _), rp.len] at e2
      simp at e1 e2
      subst e1 e2
      exact new
  · obtain ⟨ps, e, t, k⟩ := rp.tab P hP
    exact ⟨ps, by rw [upd_ne (ne_of_none e h)]; exact e, t, J.tmono (Ext.laid (μ := μ) h).imm k⟩
theorem Ext.write {l : Nat} {a : Addr} {o : HO} (rp : Rp J K H μ S) (hl : μ[l]? = some a) : Ext H μ (upd H a o) μ := by
  obtain ⟨u, e, hi, hn⟩ := rp.at (List.mem_of_getElem? hl)
  refine ⟨⟨[], by simp⟩, fun _ m => .inl m, fun b w q i => ?_, fun b w q n => .inl ?_⟩
  · rw [upd_ne]
    · exact q
    · rintro rfl
      rw [q] at e; cases e
      rw [hi] at i; cases i
  · rw [upd_ne]
    · exact q
    · rintro rfl
      exact n (List.mem_of_getElem? hl)
theorem Rp.write {l : Nat} {a : Addr} {o : HO} {ob : Ob} (rp : Rp J K H μ S) (hl : μ[l]? = some a) (new : ObR J K (upd H a o) μ a ob) : Rp J K (upd H a o) μ (S.set l ob) := by
  obtain ⟨u, e, hi, hn⟩ := rp.at (List.mem_of_getElem? hl)
  refine ⟨by rw [List.length_set]; exact rp.len, rp.nd, fun k b ob' e1 e2 => ?_, fun P hP => ?_⟩
  · by_cases hk : l = k
    · subst hk
      rw [hl] at e1; cases e1
      have hs : l < S.length := by rw [← rp.len]; exact (List.getElem?_eq_some_iff.mp hl).1
      rw [List.getElem?_set_self hs] at e2; cases e2
      exact new
    · rw [List.getElem?_set_ne hk] at e2
      refine (rp.obj k b ob' e1 e2).stay (Ext.write rp hl) ?_
      rw [upd_ne]
      rintro rfl
      exact hk (nd_ix rp.nd hl e1)
  · obtain ⟨ps, q, t, tk⟩ := rp.tab P hP
    refine ⟨ps, ?_, t, J.tmono (Ext.write rp hl).imm tk⟩
    rw [upd_ne]
    · exact q
    · rintro rfl
      rw [e] at q; cases q
      exact hn ps rfl
theorem Rp.lst {l : Nat} {a : Addr} {xs : List D} (rp : Rp J K H μ S) (hl : μ[l]? = some a) (hs : S[l]? = some (.lst xs)) : ∃ vs, H a = some (.lst vs) ∧ RDs J K H μ xs vs := rp.obj l a _ hl hs
end
def eV (i : Nat) : Env → M D := fun ρ S => match ρ[i]? with
  | some (some d) => .ok d S
  | _ => .bad
def eC (d : D) : Env → M D := fun _ S => .ok d S
def e1 (f : D → M D) (a : Env → M D) : Env → M D := fun ρ S => (a ρ S).bind f
def e2 (f : D → D → M D) (a b : Env → M D) : Env → M D := fun ρ S => (a ρ S).bind fun x S1 => (b ρ S1).bind fun y => f x y
def aN : Env → M (List D) := fun _ S => .ok [] S
def aC (a : Env → M D) (r : Env → M (List D)) : Env → M (List D) := fun ρ S => (a ρ S).bind fun x S1 => (r ρ S1).bind fun xs S2 => .ok (x :: xs) S2
def eA (f : List D → M D) (as : Env → M (List D)) : Env → M D := fun ρ S => (as ρ S).bind f
def gd {α : Type} (c : Prop) [Decidable c] (r : R α) : R α := if c then r else .bad
def mTup (ds : List D) : M D := fun S => gd (ds.length ≤ sizeLine) (.ok (.tup ds) S)
def mLst (ds : List D) : M D := fun S => gd (ds.length ≤ sizeLine) (.ok (.loc S.length) (S ++ [.lst ds]))
def asB : D → M Bool := fun d S => match d with
  | .bl b => .ok b S
  | _ => .bad
def eAnd (a b : Env → M D) : Env → M D := fun ρ S => (a ρ S).bind fun x S1 => (asB x S1).bind fun c S2 => if c = true then b ρ S2 else .ok (.bl false) S2
def eOr (a b : Env → M D) : Env → M D := fun ρ S => (a ρ S).bind fun x S1 => (asB x S1).bind fun c S2 => if c = true then .ok (.bl true) S2 else b ρ S2
def eNot (a : Env → M D) : Env → M D := fun ρ S => (a ρ S).bind fun x S1 => (asB x S1).bind fun c S2 => .ok (.bl (!c)) S2
def eIf (t : Env → M Bool) (a b : Env → M D) : Env → M D := fun ρ S => (t ρ S).bind fun c S1 => if c = true then a ρ S1 else b ρ S1
def bV (a : Env → M D) : Env → M Bool := fun ρ S => (a ρ S).bind asB
def bAnd (a b : Env → M Bool) : Env → M Bool := fun ρ S => (a ρ S).bind fun c S1 => if c = true then b ρ S1 else .ok false S1
def bOr (a b : Env → M Bool) : Env → M Bool := fun ρ S => (a ρ S).bind fun c S1 => if c = true then .ok true S1 else b ρ S1
def bNot (a : Env → M Bool) : Env → M Bool := fun ρ S => (a ρ S).bind fun c S1 => .ok (!c) S1
def eCh (f f' : D → D → M D) (a b c : Env → M D) : Env → M D := fun ρ S => (a ρ S).bind fun x S1 => (b ρ S1).bind fun y S2 => (f x y S2).bind fun z S3 => (asB z S3).bind fun k S4 =>
  if k = true then (c ρ S4).bind fun w S5 => f' y w S5 else .ok (.bl false) S4
section
variable {J : Ip} {E : XE} {X : Cx} {e a b c : Expr} {es : List Expr} {pos : Pos} {ma mb mc : Env → M D} {tA' tB' tC' : Env → M Bool} {as : Env → M (List D)}
theorem PE.imp {t t' : TE} (h : PE X e t) (k : ∀ σ H Q, t' σ H Q → t σ H Q) : PE X e t' := fun pins s σ H Q I q => h pins s σ H Q I (k σ H Q q)
theorem PT.imp {t t' : TT} (h : PT X e t) (k : ∀ σ H Q, t' σ H Q → t σ H Q) : PT X e t' := fun pins s σ H Q I q => h pins s σ H Q I (k σ H Q q)
theorem PW.imp {t t' : TT} (h : PW X e t) (k : ∀ σ H Q, t' σ H Q → t σ H Q) : PW X e t' := fun w pins s σ H Q I q => h w pins s σ H Q I (k σ H Q q)
theorem PA.imp {t t' : TA} (h : PA X es t) (k : ∀ σ H Q, t' σ H Q → t σ H Q) : PA X es t' := fun pos pins s σ H Q I q => h pos pins s σ H Q I (k σ H Q q)
theorem tM.now {J : Ip} {K : PySem.W.Frag} {E : XE} {m : Env → M D} {σ : L2.St} {H : Hp} {μ : List Addr} {S : Store} {ρ : Env} {Q : VK} (rp : Rp J K H μ S) (re : EnvR J K H μ ρ σ) (p : Post J K E H μ (m ρ S) Q) : tM J K E m σ H Q := ⟨μ, S, ρ, rp, re, p⟩
theorem e_var {x : Str} (i : Nat) (hN : X.N[i]? = some x := by rfl) (hv : Vis X.env.scope x := by first | exact Or.inl rfl | exact Or.inr (Or.inl rfl) | exact Or.inr (Or.inr rfl)) (hd : (x == ("__debug__" : Str)) = false := by decide)
    (hcd : (x == ("__classdict__" : Str)) = false := by decide) : PE X (.Name x pos) (tM J X.K E (eV i)) := PE.imp (pe_var hN hv hd hcd) fun σ H Q ⟨μ, S, ρ, rp, re, p⟩ => by
  unfold eV at p
  split at p
  · rename_i d e
    obtain ⟨v, h1, h2⟩ := re.get i d e
    exact ⟨v, h1, p μ H v .refl rp h2⟩
  · exact p.elim
theorem e_cst {t : TE} {d : D} {v : V} (h : PE X e (tC v)) (r : ∀ H μ, RD J X.K H μ d v) : PE X e (tM J X.K E (eC d)) := PE.imp h fun σ H Q ⟨μ, S, ρ, rp, re, p⟩ => p μ H v .refl rp (r H μ)
theorem e_int {i j} : PE X (.Constant (.int i) j pos) (tM J X.K E (eC (.int i))) := e_cst (t := tC .non) pe_int fun _ _ => .int i
theorem e_bl {i j} : PE X (.Constant (.bool i) j pos) (tM J X.K E (eC (.bl i))) := e_cst (t := tC .non) pe_bl fun _ _ => .bl i
theorem e_non {j} : PE X (.Constant .none j pos) (tM J X.K E (eC .non)) := e_cst (t := tC .non) pe_non fun _ _ => .non
theorem e_str {x j} : PE X (.Constant (.str x) j pos) (tM J X.K E (eC (.str x))) := e_cst (t := tC .non) pe_str fun _ _ => .str x
theorem a_nil : PA X [] (tA J X.K E aN) := PA.imp pa_nil fun σ H Q ⟨μ, S, ρ, rp, re, p⟩ => p μ H [] .refl rp .nil
theorem a_cons (ha : PE X e (tM J X.K E ma)) (hr : PA X es (tA J X.K E as)) (hs : starEach (e :: es) X.env = (false, eval e X.env) :: starEach es X.env := by rfl) : PA X (e :: es) (tA J X.K E (aC ma as)) :=
  PA.imp (pa_cons ha hr hs) fun σ H Q ⟨μ, S, ρ, rp, re, p⟩ => by
    refine tM.now rp re (Post.mono (PostA.step p) ?_)
    rintro v H1 ⟨μ1, S1, d, x1, rp1, rd1, p1⟩
    refine ⟨μ1, S1, ρ, rp1, re.mono x1, ?_⟩
    cases h : as ρ S1 with
    | ok ds S2 =>
      rw [h] at p1
      exact fun μ2 H2 vs x2 rp2 rds => p1 μ2 H2 (v :: vs) x2 rp2 (.cons (rd1.mono x2) rds)
    | exc c S2 => rw [h] at p1; exact p1
    | bad => rw [h] at p1; exact p1
theorem e_tup {x1} (h : PA X es (tA J X.K E as)) : PE X (.Tuple es x1 pos) (tM J X.K E (eA mTup as)) := PE.imp (pe_tup h) fun σ H Q ⟨μ, S, ρ, rp, re, p⟩ => by
  refine ⟨μ, S, ρ, rp, re, ?_⟩
  have q := Post.stepA p
  cases h : as ρ S with
  | ok ds S1 =>
    rw [h] at q
    intro μ1 H1 vs x1 rp1 rds
    obtain ⟨μ2, S2, ds2, x2, rp2, rds2, p2⟩ := q μ1 H1 vs x1 rp1 rds
    have hl := rds2.length
    unfold mTup gd at p2
    split at p2
    · rename_i hz
      exact ⟨by omega, fun p hp => p2 _ _ _ (Ext.laid hp) (rp2.laid hp) (.tup (SqT.of upd_same) (rds2.mono (Ext.laid hp)))⟩
    · exact p2.elim
  | exc c S1 => rw [h] at q; exact q
  | bad => rw [h] at q; exact q
theorem e_lst (h : PA X es (tA J X.K E as)) : PE X (.List es pos) (tM J X.K E (eA mLst as)) := PE.imp (pe_lst h) fun σ H Q ⟨μ, S, ρ, rp, re, p⟩ => by
  refine ⟨μ, S, ρ, rp, re, ?_⟩
  have q := Post.stepA p
  cases h : as ρ S with
  | ok ds S1 =>
    rw [h] at q
    intro μ1 H1 vs x1 rp1 rds
    obtain ⟨μ2, S2, ds2, x2, rp2, rds2, p2⟩ := q μ1 H1 vs x1 rp1 rds
    have hl := rds2.length
    unfold mLst gd at p2
    split at p2
    · rename_i hz
      refine ⟨by omega, fun p hp => p2 _ _ _ (Ext.alloc hp) (rp2.alloc hp ⟨vs, upd_same, rds2.mono (Ext.alloc hp)⟩) (.loc ?_)⟩
      rw [List.getElem?_append_right (by rw [rp2.len]; exact Nat.le_refl _), rp2.len]
      simp
    · exact p2.elim
  | exc c S1 => rw [h] at q; exact q
  | bad => rw [h] at q; exact q
def OpM (J : Ip) (E : XE) (X : Cx) (g : Value → Value → Sem Value) (f : D → D → M D) : Prop :=
  ∃ r : R2, OpR X g r ∧ ∀ H μ S x y v u Q, Rp J X.K H μ S → RD J X.K H μ x v → RD J X.K H μ y u → Post J X.K E H μ (f x y S) Q → r v u H Q
theorem tOp.of {f : D → D → M D} {r : R2} (hr : ∀ H μ S x y v u Q, Rp J X.K H μ S → RD J X.K H μ x v → RD J X.K H μ y u → Post J X.K E H μ (f x y S) Q → r v u H Q) {σ : L2.St} {H : Hp} {Q : VK}
    (h : tM J X.K E (e2 f ma mb) σ H Q) : tOp r (tM J X.K E ma) (tM J X.K E mb) σ H Q := by
  obtain ⟨μ, S, ρ, rp, re, p⟩ := h
  refine ⟨μ, S, ρ, rp, re, Post.mono (Post.step p) ?_⟩
  rintro v H1 ⟨μ1, S1, d, x1, rp1, rd1, p1⟩
  refine ⟨μ1, S1, ρ, rp1, re.mono x1, Post.mono (Post.step p1) ?_⟩
  rintro u H2 ⟨μ2, S2, d2, x2, rp2, rd2, p2⟩
  exact hr H2 μ2 S2 d d2 v u Q rp2 (rd1.mono x2) rd2 p2
theorem e_op {op : Operator} {f : D → D → M D} (ho : OpM J E X (binaryOp op) f) (ha : PE X a (tM J X.K E ma)) (hb : PE X b (tM J X.K E mb)) : PE X (.BinOp a op b pos) (tM J X.K E (e2 f ma mb)) :=
  let ⟨_, h1, h2⟩ := ho
  PE.imp (pe_op h1 ha hb) fun σ H Q h => tOp.of h2 h
theorem e_cmp {op : CmpOp} {f : D → D → M D} (ho : OpM J E X (compareOp op) f) (ha : PE X a (tM J X.K E ma)) (hb : PE X b (tM J X.K E mb)) (hm : behindInMarks op b = false) : PE X (.Compare a [op] [b] pos) (tM J X.K E (e2 f ma mb)) :=
  let ⟨_, h1, h2⟩ := ho
  PE.imp (pe_cmpR h1 ha hb hm) fun σ H Q h => tOp.of h2 h
theorem t_cmp {op : CmpOp} {f : D → D → M D} (ho : OpM J E X (compareOp op) f) (ha : PE X a (tM J X.K E ma)) (hb : PE X b (tM J X.K E mb)) (hm : behindInMarks op b = false) : PT X (.Compare a [op] [b] pos) (tT J X.K E (bV (e2 f ma mb))) := by
  obtain ⟨r, h1, h2⟩ := ho
  refine PT.imp (pt_cmpR h1 ha hb hm) fun σ H Q h => ?_
  obtain ⟨μ, S, ρ, rp, re, p⟩ := h
  have q := PostB.step p
  have q2 : tM J X.K E (e2 f ma mb) σ H _ := ⟨μ, S, ρ, rp, re, q⟩
  have q3 := tOp.of h2 q2
  have fin : ∀ v H1, (∃ μ1 S1 d, Ext H μ H1 μ1 ∧ Rp J X.K H1 μ1 S1 ∧ RD J X.K H1 μ1 d v ∧ PostB J X.K E H1 μ1 (asB d S1) Q) → ∃ k, v = .bl k ∧ Q k H1 := by
    rintro v H1 ⟨μ1, S1, d, x1, rp1, rd1, p1⟩
    unfold asB at p1
    split at p1
    · cases rd1
      exact ⟨_, rfl, p1 μ1 H1 .refl rp1⟩
    · exact p1.elim
  have q4 : tM J X.K E (e2 f ma mb) σ H (fun v H1 => ∃ k, v = .bl k ∧ Q k H1) := ⟨μ, S, ρ, rp, re, Post.mono q fin⟩
  exact tOp.of h2 q4
theorem e_one {op} {m : Env → M D} (h : PE X a (tM J X.K E m)) : PE X (.BoolOp op [a] pos) (tM J X.K E m) := pe_one h
theorem asB_of {d : D} {v : V} {H : Hp} {μ : List Addr} {S : Store} {f : Bool → M D} {Q : VK} (rp : Rp J X.K H μ S) (rd : RD J X.K H μ d v) (p : Post J X.K E H μ ((asB d S).bind f) Q) : ∃ c, v = .bl c ∧ Post J X.K E H μ (f c S) Q := by
  unfold asB at p
  split at p
  · cases rd
    exact ⟨_, rfl, p⟩
  · exact p.elim
theorem e_and {rest : List Expr} (ha : PE X a (tM J X.K E ma)) (hb : PE X (.BoolOp .And (b :: rest) pos) (tM J X.K E mb)) : PE X (.BoolOp .And (a :: b :: rest) pos) (tM J X.K E (eAnd ma mb)) :=
  PE.imp (pe_and ha hb) fun σ H Q ⟨μ, S, ρ, rp, re, p⟩ => by
    refine ⟨μ, S, ρ, rp, re, Post.mono (Post.step p) ?_⟩
    rintro v H1 ⟨μ1, S1, d, x1, rp1, rd1, p1⟩
    obtain ⟨c, rfl, p2⟩ := asB_of rp1 rd1 p1
    refine ⟨c, rfl, ?_⟩
    cases c with
    | true => exact ⟨μ1, S1, ρ, rp1, re.mono x1, p2⟩
    | false => exact p2 μ1 H1 _ .refl rp1 (.bl false)
theorem e_or {rest : List Expr} (ha : PE X a (tM J X.K E ma)) (hb : PE X (.BoolOp .Or (b :: rest) pos) (tM J X.K E mb)) : PE X (.BoolOp .Or (a :: b :: rest) pos) (tM J X.K E (eOr ma mb)) :=
  PE.imp (pe_or ha hb) fun σ H Q ⟨μ, S, ρ, rp, re, p⟩ => by
    refine ⟨μ, S, ρ, rp, re, Post.mono (Post.step p) ?_⟩
    rintro v H1 ⟨μ1, S1, d, x1, rp1, rd1, p1⟩
    obtain ⟨c, rfl, p2⟩ := asB_of rp1 rd1 p1
    refine ⟨c, rfl, ?_⟩
    cases c with
    | true => exact p2 μ1 H1 _ .refl rp1 (.bl true)
    | false => exact ⟨μ1, S1, ρ, rp1, re.mono x1, p2⟩
theorem e_not (ha : PE X a (tM J X.K E ma)) : PE X (.UnaryOp .Not a pos) (tM J X.K E (eNot ma)) := PE.imp (pe_not ha) fun σ H Q ⟨μ, S, ρ, rp, re, p⟩ => by
  refine ⟨μ, S, ρ, rp, re, Post.mono (Post.step p) ?_⟩
  rintro v H1 ⟨μ1, S1, d, x1, rp1, rd1, p1⟩
  obtain ⟨c, rfl, p2⟩ := asB_of rp1 rd1 p1
  exact ⟨c, rfl, p2 μ1 H1 _ .refl rp1 (.bl _)⟩
theorem PostB.mono {H : Hp} {μ : List Addr} {r : R Bool} {Q Q' : Bool → Hp → Prop} (p : PostB J X.K E H μ r Q) (h : ∀ v H', Q v H' → Q' v H') : PostB J X.K E H μ r Q' := by
  cases r with
  | ok d S => exact fun μ2 H2 x y => h _ _ (p μ2 H2 x y)
  | exc c S => exact p
  | bad => exact p
theorem w_and1 (ha : PT X a (tT J X.K E tA')) : PW X (.BoolOp .And [a] pos) (tT J X.K E tA') := pw_and1 ha
theorem w_or1 (ha : PT X a (tT J X.K E tA')) : PW X (.BoolOp .Or [a] pos) (tT J X.K E tA') := pw_or1 ha
theorem w_and {rest : List Expr} (ha : PT X a (tT J X.K E tA')) (hb : PW X (.BoolOp .And (b :: rest) pos) (tT J X.K E tB')) : PW X (.BoolOp .And (a :: b :: rest) pos) (tT J X.K E (bAnd tA' tB')) := PW.imp (pw_and ha hb) fun σ H Q ⟨μ, S, ρ, rp, re, p⟩ => by
  refine ⟨μ, S, ρ, rp, re, PostB.mono (PostB.stepB p) ?_⟩
  rintro c H1 ⟨μ1, S1, x1, rp1, p1⟩
  cases c with
  | true => exact ⟨μ1, S1, ρ, rp1, re.mono x1, p1⟩
  | false => exact p1 μ1 H1 .refl rp1
theorem w_or {rest : List Expr} (ha : PT X a (tT J X.K E tA')) (hb : PW X (.BoolOp .Or (b :: rest) pos) (tT J X.K E tB')) : PW X (.BoolOp .Or (a :: b :: rest) pos) (tT J X.K E (bOr tA' tB')) := PW.imp (pw_or ha hb) fun σ H Q ⟨μ, S, ρ, rp, re, p⟩ => by
  refine ⟨μ, S, ρ, rp, re, PostB.mono (PostB.stepB p) ?_⟩
  rintro c H1 ⟨μ1, S1, x1, rp1, p1⟩
  cases c with
  | true => exact p1 μ1 H1 .refl rp1
  | false => exact ⟨μ1, S1, ρ, rp1, re.mono x1, p1⟩
theorem t_w (h : PW X e (tT J X.K E tA')) : PT X e (tT J X.K E tA') := PW.pt h
theorem t_not (ha : PT X a (tT J X.K E tA')) : PT X (.UnaryOp .Not a pos) (tT J X.K E (bNot tA')) := PT.imp (pt_not ha) fun σ H Q ⟨μ, S, ρ, rp, re, p⟩ => by
  refine ⟨μ, S, ρ, rp, re, PostB.mono (PostB.stepB p) ?_⟩
  rintro c H1 ⟨μ1, S1, x1, rp1, p1⟩
  exact p1 μ1 H1 .refl rp1
theorem tCh.of {f f' : D → D → M D} {r r' : R2} (hr : ∀ H μ S x y v u Q, Rp J X.K H μ S → RD J X.K H μ x v → RD J X.K H μ y u → Post J X.K E H μ (f x y S) Q → r v u H Q)
    (hr' : ∀ H μ S x y v u Q, Rp J X.K H μ S → RD J X.K H μ x v → RD J X.K H μ y u → Post J X.K E H μ (f' x y S) Q → r' v u H Q) {σ : L2.St} {H : Hp} {Q : VK}
    (h : tM J X.K E (eCh f f' ma mb mc) σ H Q) : tChain r r' (tM J X.K E ma) (tM J X.K E mb) (tM J X.K E mc) σ H Q := by
  obtain ⟨μ, S, ρ, rp, re, p⟩ := h
  refine ⟨μ, S, ρ, rp, re, Post.mono (Post.step p) ?_⟩
  rintro v H1 ⟨μ1, S1, d, x1, rp1, rd1, p1⟩
  refine ⟨μ1, S1, ρ, rp1, re.mono x1, Post.mono (Post.step p1) ?_⟩
  rintro u H2 ⟨μ2, S2, d2, x2, rp2, rd2, p2⟩
  refine hr H2 μ2 S2 d d2 v u _ rp2 (rd1.mono x2) rd2 (Post.mono (Post.step p2) ?_)
  rintro z H3 ⟨μ3, S3, d3, x3, rp3, rd3, p3⟩
  obtain ⟨k, rfl, p4⟩ := asB_of rp3 rd3 p3
  refine ⟨k, rfl, ?_⟩
  cases k with
  | true =>
    refine ⟨μ3, S3, ρ, rp3, (re.mono x1).mono (x2.trans x3), Post.mono (Post.step p4) ?_⟩
    rintro w' H4 ⟨μ4, S4, d4, x4, rp4, rd4, p5⟩
    exact hr' H4 μ4 S4 d2 d4 u w' Q rp4 (rd2.mono (x3.trans x4)) rd4 p5
  | false => exact p4 μ3 H3 _ .refl rp3 (.bl false)
theorem e_chain {op op' : CmpOp} {f f' : D → D → M D} (ho : OpM J E X (compareOp op) f) (ho' : OpM J E X (compareOp op') f') (ha : PE X a (tM J X.K E ma)) (hb : PE X b (tM J X.K E mb)) (hc : PE X c (tM J X.K E mc))
    (hm : lastMarks [op, op'] [b, c] = false := by with_unfolding_all rfl) : PE X (.Compare a [op, op'] [b, c] pos) (tM J X.K E (eCh f f' ma mb mc)) :=
  let ⟨_, h1, h2⟩ := ho
  let ⟨_, h3, h4⟩ := ho'
  PE.imp (pe_chain h1 h3 ha hb hc hm) fun σ H Q h => tCh.of h2 h4 h
end
end SH
set_option Elab.async false
set_option linter.all false
set_option maxRecDepth 100000
set_option maxHeartbeats 4000000
namespace SH
open PySem PySem.Spec L2
def mapO {α β : Type} (f : α → Option β) : List α → Option (List β)
  | [] => some []
  | x :: xs => match f x, mapO f xs with
    | some y, some ys => some (y :: ys)
    | _, _ => none
def py (S : Store) : Nat → D → Option PyData
  | 0, _ => none
  | n + 1, d => match d with
    | .non => some .none
    | .bl b => some (.bool b)
    | .int i => some (.int i)
    | .str s => some (.str s)
    | .tup xs => (mapO (py S n) xs).map .tuple
    | .con xs => (mapO (py S n) xs).map .list
    | .loc l => match S[l]? with
      | some (.lst xs) => (mapO (py S n) xs).map .list
      | _ => none
    | .ext _ => none
    | .ty _ => none
section
variable {J : Ip} {K : PySem.W.Frag} {H : Hp} {μ : List Addr} {S : Store}
theorem py_all {f : D → Option PyData} (h : ∀ d v p, f d = some p → RD J K H μ d v → Dp K H v p) : ∀ {ds : List D} {vs : List V} {ps : List PyData}, mapO f ds = some ps → RDs J K H μ ds vs → DpAll K H vs ps
  | _, _, _, e, .nil => by cases e; exact .nil
  | d :: ds, v :: vs, ps, e, .cons r rs => by
    unfold mapO at e
    split at e
    · rename_i y ys h1 h2
      cases e
      exact .cons (h d v y h1 r) (py_all h h2 rs)
    · cases e
theorem py_of (rp : Rp J K H μ S) : ∀ (n : Nat) (d : D) (v : V) (p : PyData), py S n d = some p → RD J K H μ d v → Dp K H v p := by
  intro n
  induction n with
  | zero => intro d v p e; cases e
  | succ n ih =>
    intro d v p e r
    cases r with
    | non => cases e; exact .non
    | bl b => cases e; exact .bl b
    | int i => cases e; exact .int i
    | str s => cases e; exact .str s
    | tup h rs =>
      obtain ⟨ps, e1, rfl⟩ := Option.map_eq_some_iff.mp (show (mapO (py S n) _).map PyData.tuple = some p from e)
      exact .tup h (py_all (fun d v p e r => ih d v p e r) e1 rs)
    | con h rs =>
      obtain ⟨ps, e1, rfl⟩ := Option.map_eq_some_iff.mp (show (mapO (py S n) _).map PyData.list = some p from e)
      exact .lst h.sq (py_all (fun d v p e r => ih d v p e r) e1 rs)
    | loc h =>
      rename_i l a
      have e' : (match S[l]? with | some (.lst xs) => (mapO (py S n) xs).map PyData.list | _ => none) = some p := e
      split at e'
      · rename_i xs hs
        obtain ⟨ps, e1, rfl⟩ := Option.map_eq_some_iff.mp e'
        obtain ⟨vs, h1, h2⟩ := rp.lst h hs
        exact .lst (SqL.of h1) (py_all (fun d v p e r => ih d v p e r) e1 h2)
      · cases e'
    | ext h => cases e
    | ty n => cases e
end
abbrev deep : Nat := 9
def eqD (neg : Bool) : D → D → M D := fun x y S => match py S deep x, py S deep y with
  | some p, some q => gd (SeqAt.shaped p = true ∧ SeqAt.shaped q = true) (.ok (.bl (if neg = true then !PyData.eqv p q else PyData.eqv p q)) S)
  | _, _ => .bad
def inP (neg : Bool) (qs : List PyData) (p : PyData) : M D := fun S => gd (PyData.canLayAll0 qs = true ∧ SeqAt.shaped p = true) (.ok (.bl (if neg = true then !(qs.any fun q => PyData.eqv q p) else qs.any fun q => PyData.eqv q p)) S)
def inD (neg : Bool) : D → D → M D := fun x y S => match py S deep y, py S deep x with
  | some (.list qs), some p => inP neg qs p S
  | some (.tuple qs), some p => inP neg qs p S
  | _, _ => .bad
def addD : D → D → M D := fun x y S => match x, y with
  | .int i, .int j => .ok (.int (i + j)) S
  | .str s, .str t => gd (s.length + t.length ≤ sizeLine) (.ok (.str (s ++ t)) S)
  | .tup xs, .tup ys => gd (xs.length + ys.length ≤ sizeLine) (.ok (.tup (xs ++ ys)) S)
  | .loc l, .loc k => match S[l]?, S[k]? with
    | some (.lst xs), some (.lst ys) => gd (xs.length + ys.length ≤ sizeLine) (.ok (.loc S.length) (S ++ [.lst (xs ++ ys)]))
    | _, _ => .bad
  | _, _ => .bad
def intD (f : Int → Int → Option D) : D → D → M D := fun x y S => match x, y with
  | .int i, .int j => match f i j with
    | some d => .ok d S
    | none => .bad
  | _, _ => .bad
def subD := intD fun i j => some (.int (i - j))
def mulI (i j : Int) : Option D := if (-(2 ^ 64) < i ∧ i < 2 ^ 64) ∨ (-(2 ^ 64) < j ∧ j < 2 ^ 64) then some (.int (i * j)) else none
def divD := intD fun i j => if 0 < j ∧ j < 1073741824 then some (.int (i / j)) else none
def modD := intD fun i j => if 0 < j then some (.int (i % j)) else none
def powD := intD fun i j => if 0 ≤ j ∧ j ≤ 1000000 ∧ i.natAbs < 2 ^ 64 then some (.int (i ^ j.toNat)) else none
def ltI := intD fun i j => some (.bl (decide (i < j)))
def leD := intD fun i j => some (.bl (decide (i ≤ j)))
def gtD := intD fun i j => some (.bl (decide (j < i)))
def geD := intD fun i j => some (.bl (decide (j ≤ i)))
def mulD : D → D → M D := fun x y S => match x, y with
  | .int i, .int j => match mulI i j with
    | some d => .ok d S
    | none => .bad
  | .tup xs, .int k => gd (-(2 ^ 62) ≤ k ∧ k < 2 ^ 62 ∧ xs.length * k.toNat ≤ sizeLine) (.ok (.tup (List.replicate k.toNat xs).flatten) S)
  | .loc l, .int k => match S[l]? with
    | some (.lst xs) => gd (-(2 ^ 62) ≤ k ∧ k < 2 ^ 62 ∧ xs.length * k.toNat ≤ sizeLine) (.ok (.loc S.length) (S ++ [.lst (List.replicate k.toNat xs).flatten]))
    | _ => .bad
  | _, _ => .bad
def isN : D → Option Bool
  | .non => some true
  | .ext _ => none
  | _ => some false
def isD (neg : Bool) : D → D → M D := fun x y S => match y with
  | .non => match isN x with
    | some k => .ok (.bl (if neg = true then !k else k)) S
    | none => .bad
  | .bl b => match x with
    | .bl c => .ok (.bl (if neg = true then !(c == b) else c == b)) S
    | _ => .bad
  | _ => .bad
section
variable {J : Ip} {E : XE} {X : Cx}
theorem op_catT0 : OpR X (binaryOp .Add) (fun x y H Q => ∃ a b ys, x = .ref a ∧ y = .ref b ∧ SqT X.K H a [] ∧ SqT X.K H b ys ∧ Q (.ref b) H) := by
  intro pins s σ H x y v u Q I rx ry h
  obtain ⟨a, b, ys, rfl, rfl, ha, hb, q⟩ := h
  cases rx
  cases ry
  obtain ⟨its, r1, p1, _⟩ := I.tuple ha
  obtain ⟨its2, r2, p2, _⟩ := I.tuple hb
  cases r1
  obtain ⟨⟨cls, dd, data, sl⟩, ho, hc, n, hd⟩ := id p1
  obtain ⟨⟨cls2, dd2, data2, sl2⟩, ho2, hc2, n2, hd2⟩ := id p2
  simp only at hc hd hc2 hd2
  subst hc hd hc2 hd2
  exact concat_meets ⟨_, ho, rfl⟩ ⟨_, ho2, rfl⟩ noFill_tuple_add seq_tuple_add PySem.F.slot_tuple_add PySem.F.entry_tuple_add (PySem.F.args_tuple_add_2 _ _)
      (PyProof.Rows.tuple_addW0 a b _ _ n n2 dd dd2 sl sl2 (by simp)) ⟨ho, ho2, ⟨.ref b, H, I, rfl, q⟩⟩
theorem o_add : OpM J E X (binaryOp .Add) addD := by
  refine ⟨_, OpR.or op_add (OpR.or op_add_str (OpR.or op_catT (OpR.or op_catT0 op_cat))), fun H μ S x y v u Q rp rx ry p => ?_⟩
  unfold addD at p
  split at p
  · cases rx; cases ry
    exact .inl ⟨_, _, rfl, rfl, p μ H _ .refl rp (.int _)⟩
  · unfold gd at p
    split at p
    · cases rx; cases ry
      exact .inr (.inl ⟨_, _, rfl, rfl, by assumption, p μ H _ .refl rp (.str _)⟩)
    · exact p.elim
  · unfold gd at p
    split at p
    · rename_i xs ys hz
      cases rx with
      | tup hx rxs =>
      cases ry with
      | tup hy rys =>
      have l1 := rxs.length
      have l2 := rys.length
      cases xs with
      | nil => cases rxs; exact .inr (.inr (.inr (.inl ⟨_, _, _, rfl, rfl, hx, hy, p μ H _ .refl rp (.tup hy rys)⟩)))
      | cons d ds =>
        refine .inr (.inr (.inl ⟨_, _, _, _, rfl, rfl, hx, hy, fun z => ?_, by omega, fun z => ?_, fun z q hq => ?_⟩))
        · rw [z] at l1; simp at l1
        · subst z
          cases rys
          exact p μ H _ .refl rp (by rw [List.append_nil]; exact .tup hx rxs)
        · exact p _ _ _ (Ext.laid hq) (rp.laid hq) (.tup (SqT.of upd_same) ((RDs.append rxs rys).mono (Ext.laid hq)))
    · exact p.elim
  · split at p
    · rename_i l k xs ys hl hk
      unfold gd at p
      split at p
      · cases rx with
        | loc hx =>
        cases ry with
        | loc hy =>
        obtain ⟨vs, h1, r1⟩ := rp.lst hx hl
        obtain ⟨us, h2, r2⟩ := rp.lst hy hk
        have l1 := r1.length
        have l2 := r2.length
        refine .inr (.inr (.inr (.inr ⟨_, _, _, _, rfl, rfl, h1, h2, by omega, fun q hq => p _ _ _ (Ext.alloc hq) (rp.alloc hq ⟨_, upd_same, (RDs.append r1 r2).mono (Ext.alloc hq)⟩) (.loc ?_)⟩)))
        rw [List.getElem?_append_right (by rw [rp.len]; exact Nat.le_refl _), rp.len]
        simp
      · exact p.elim
    · exact p.elim
  · exact p.elim
theorem o_int {g : Value → Value → Sem Value} {f : Int → Int → Option D} {r : R2} (h : OpR X g r) (k : ∀ i j d H Q, f i j = some d → (∃ v, (∀ J K H' μ, RD J K H' μ d v) ∧ Q v H) → r (.int i) (.int j) H Q) (hd : ∀ i j d, f i j = some d → ∃ v, ∀ J K H' μ, RD J K H' μ d v) : OpM J E X g (intD f) := by
  refine ⟨r, h, fun H μ S x y v u Q rp rx ry p => ?_⟩
  unfold intD at p
  split at p
  · rename_i i j
    split at p
    · rename_i d e
      cases rx; cases ry
      obtain ⟨v, hv⟩ := hd i j d e
      exact k i j d H Q e ⟨v, hv, p μ H v .refl rp (hv _ _ _ _)⟩
    · exact p.elim
  · exact p.elim
theorem rd_int_inj {d : D} {v : V} {i : Int} (h : ∀ J K H' μ, RD J K H' μ d v) (e : d = .int i) : v = .int i := by
  subst e
  have := h ⟨fun _ _ _ => True, fun _ h => h, [], fun _ => .none, fun _ _ _ => True, fun _ _ => trivial, trivial, fun _ => True, fun _ _ _ => trivial⟩ [] (fun _ => none) []
  cases this
  rfl
theorem rd_bl_inj {d : D} {v : V} {i : Bool} (h : ∀ J K H' μ, RD J K H' μ d v) (e : d = .bl i) : v = .bl i := by
  subst e
  have := h ⟨fun _ _ _ => True, fun _ h => h, [], fun _ => .none, fun _ _ _ => True, fun _ _ => trivial, trivial, fun _ => True, fun _ _ _ => trivial⟩ [] (fun _ => none) []
  cases this
  rfl
theorem o_sub : OpM J E X (binaryOp .Sub) subD := o_int op_sub (fun i j d H Q e ⟨v, hv, q⟩ => ⟨i, j, rfl, rfl, by have z := rd_int_inj hv (Option.some.inj e).symm; subst z; exact q⟩) fun i j d e => ⟨.int (i - j), fun _ _ _ _ => by cases e; exact .int _⟩
theorem o_div : OpM J E X (binaryOp .FloorDiv) divD := o_int op_fdiv (fun i j d H Q e ⟨v, hv, q⟩ => by
    split at e
    · rename_i h
      exact ⟨i, j, rfl, rfl, h, by have z := rd_int_inj hv (Option.some.inj e).symm; subst z; exact q⟩
    · cases e) fun i j d e => ⟨.int (i / j), fun _ _ _ _ => by split at e <;> cases e; exact .int _⟩
theorem o_mod : OpM J E X (binaryOp .Mod) modD := o_int op_mod (fun i j d H Q e ⟨v, hv, q⟩ => by
    split at e
    · rename_i h
      exact ⟨i, j, rfl, rfl, h, by have z := rd_int_inj hv (Option.some.inj e).symm; subst z; exact q⟩
    · cases e) fun i j d e => ⟨.int (i % j), fun _ _ _ _ => by split at e <;> cases e; exact .int _⟩
theorem o_pow : OpM J E X (binaryOp .Pow) powD := o_int op_pow (fun i j d H Q e ⟨v, hv, q⟩ => by
    split at e
    · rename_i h
      exact ⟨i, j, rfl, rfl, h, by have z := rd_int_inj hv (Option.some.inj e).symm; subst z; exact q⟩
    · cases e) fun i j d e => ⟨.int (i ^ j.toNat), fun _ _ _ _ => by split at e <;> cases e; exact .int _⟩
theorem o_lt : OpM J E X (compareOp .Lt) ltI := o_int op_lt (fun i j d H Q e ⟨v, hv, q⟩ => ⟨i, j, rfl, rfl, by have z := rd_bl_inj hv (Option.some.inj e).symm; subst z; exact q⟩) fun i j d e => ⟨_, fun _ _ _ _ => by cases e; exact .bl _⟩
theorem o_le : OpM J E X (compareOp .LtE) leD := o_int op_le (fun i j d H Q e ⟨v, hv, q⟩ => ⟨i, j, rfl, rfl, by have z := rd_bl_inj hv (Option.some.inj e).symm; subst z; exact q⟩) fun i j d e => ⟨_, fun _ _ _ _ => by cases e; exact .bl _⟩
theorem o_gt : OpM J E X (compareOp .Gt) gtD := o_int op_gt (fun i j d H Q e ⟨v, hv, q⟩ => ⟨i, j, rfl, rfl, by have z := rd_bl_inj hv (Option.some.inj e).symm; subst z; exact q⟩) fun i j d e => ⟨_, fun _ _ _ _ => by cases e; exact .bl _⟩
theorem o_ge : OpM J E X (compareOp .GtE) geD := o_int op_ge (fun i j d H Q e ⟨v, hv, q⟩ => ⟨i, j, rfl, rfl, by have z := rd_bl_inj hv (Option.some.inj e).symm; subst z; exact q⟩) fun i j d e => ⟨_, fun _ _ _ _ => by cases e; exact .bl _⟩
theorem o_eq (hu : X.A.units + 64 < cLine) : OpM J E X (compareOp .Eq) (eqD false) := by
  refine ⟨_, op_eqD hu, fun H μ S x y v u Q rp rx ry p => ?_⟩
  unfold eqD at p
  split at p
  · rename_i a b e1 e2
    unfold gd at p
    split at p
    · rename_i hs
      exact ⟨a, b, py_of rp _ _ _ _ e1 rx, py_of rp _ _ _ _ e2 ry, hs.1, hs.2, p μ H _ .refl rp (.bl _)⟩
    · exact p.elim
  · exact p.elim
theorem o_ne (hu : X.A.units + 64 < cLine) : OpM J E X (compareOp .NotEq) (eqD true) := by
  refine ⟨_, op_neD hu, fun H μ S x y v u Q rp rx ry p => ?_⟩
  unfold eqD at p
  split at p
  · rename_i a b e1 e2
    unfold gd at p
    split at p
    · rename_i hs
      exact ⟨a, b, py_of rp _ _ _ _ e1 rx, py_of rp _ _ _ _ e2 ry, hs.1, hs.2, p μ H _ .refl rp (.bl _)⟩
    · exact p.elim
  · exact p.elim
end
end SH
set_option Elab.async false
set_option linter.all false
set_option maxRecDepth 100000
set_option maxHeartbeats 4000000
namespace SH
open PySem PySem.Spec L2
section
variable {J : Ip} {E : XE} {X : Cx}
def rInD (K : PySem.W.Frag) (neg : Bool) : R2 := fun x y H Q => ∃ p qs, Dp K H x p ∧ (Dp K H y (.list qs) ∨ Dp K H y (.tuple qs)) ∧ PyData.canLayAll0 qs = true ∧ SeqAt.shaped p = true ∧ Q (.bl (if neg = true then !(qs.any fun q => PyData.eqv q p) else qs.any fun q => PyData.eqv q p)) H
theorem op_notInD (hu : X.A.units + 65 < cLine) : OpR X (compareOp .NotIn) (rInD X.K true) := by
  intro pins s σ H x y v u Q I rx ry h
  obtain ⟨d, e, hd, he, sd, se, q⟩ := h
  obtain ⟨as, r1⟩ := Dp.reads I d x v hd rx
  rcases he with he | he
  · obtain ⟨bs, r2⟩ := Dp.reads I _ y u he ry
    exact SeqAt.notIn_list_reads r2 r1 sd (SeqAt.canLay_of_shaped se) (PyProof.Rows.room_in_shaped se hu) ⟨.bl _, H, I, rfl, q⟩
  · obtain ⟨bs, r2⟩ := Dp.reads I _ y u he ry
    exact SeqAt.notIn_tuple_reads r2 r1 sd (SeqAt.canLay_of_shaped se) (PyProof.Rows.room_in_shaped se hu) ⟨.bl _, H, I, rfl, q⟩
theorem inD_r {neg : Bool} {H : Hp} {μ : List Addr} {S : Store} {x y : D} {v u : V} {Q : VK} (rp : Rp J X.K H μ S) (rx : RD J X.K H μ x v) (ry : RD J X.K H μ y u) (p : Post J X.K E H μ (inD neg x y S) Q) : rInD X.K neg v u H Q := by
  unfold inD at p
  split at p
  · rename_i qs a e1 e2
    unfold inP gd at p
    split at p
    · rename_i hs
      exact ⟨a, qs, py_of rp _ _ _ _ e2 rx, .inl (py_of rp _ _ _ _ e1 ry), hs.1, hs.2, p μ H _ .refl rp (.bl _)⟩
    · exact p.elim
  · rename_i qs a e1 e2
    unfold inP gd at p
    split at p
    · rename_i hs
      exact ⟨a, qs, py_of rp _ _ _ _ e2 rx, .inr (py_of rp _ _ _ _ e1 ry), hs.1, hs.2, p μ H _ .refl rp (.bl _)⟩
    · exact p.elim
  · exact p.elim
theorem o_notin (hu : X.A.units + 65 < cLine) : OpM J E X (compareOp .NotIn) (inD true) := ⟨_, op_notInD hu, fun H μ S x y v u Q rp rx ry p => inD_r rp rx ry p⟩
theorem op_isB : OpR X (compareOp .Is) (fun x y H Q => ∃ a b, x = .bl a ∧ y = .bl b ∧ Q (.bl (a == b)) H) := by
  intro pins s σ H x y v u Q I rx ry h
  obtain ⟨a, b, rfl, rfl, q⟩ := h
  cases rx; cases ry
  exact PyProof.Rows.is_bool ⟨.bl _, H, I, rfl, q⟩
theorem rd_non {H : Hp} {μ : List Addr} {x : D} {v : V} {k : Bool} (e : isN x = some k) (rx : RD J X.K H μ x v) : decide (v = .non) = k := by
  cases rx <;> cases e <;> simp
theorem o_is : OpM J E X (compareOp .Is) (isD false) := by
  refine ⟨_, OpR.or op_isN op_isB, fun H μ S x y v u Q rp rx ry p => ?_⟩
  unfold isD at p
  split at p
  · cases ry
    split at p
    · rename_i k e
      exact .inl ⟨rfl, by rw [rd_non e rx]; exact p μ H _ .refl rp (.bl _)⟩
    · exact p.elim
  · cases ry
    split at p
    · cases rx
      exact .inr ⟨_, _, rfl, rfl, p μ H _ .refl rp (.bl _)⟩
    · exact p.elim
  · exact p.elim
end
section
open PySem.MeetsSeq PySem.MeetsSeq2 PySem.MeetsSeq3
open PySem.AutoSeq1 (wpAny_loadPart')
theorem tuple_mul_same (l : Addr) (items : Array Value) (n : Nat) (dd : Option Addr) (sl : Array (Option Value)) (x : Int) (u : Tok) (h1 : -(2 ^ 63) ≤ x) (h2 : x < 2 ^ 63) (hc : items.isEmpty = true ∨ x = 1) :
    Meets (Builtin.«tuple.__mul__» ⟨[.ref l, .int x u], []⟩) (fun _ R s => s.heap.get? l = some { cls := .type "tuple", dict := dd, data := .seq items n, slots := sl } ∧ R (.ok (.ret (Value.ref l))) { s with heap := s.heap, toks := s.toks }) :=
  .of_wp fun prog w A R s h => by
    obtain ⟨hp, g, d, tk, os⟩ := s; obtain ⟨hl, h⟩ := h
    have f1 := AutoSeq1.idx_int
    have f2 := AutoSeq1.sub_tuple_tuple
    have e1 : ¬ ((decide (x < -(2 ^ 63)) || decide (x ≥ 2 ^ 63)) = true) := by simp; omega
    have e2 : (items.isEmpty || x == 1) = true := by rcases hc with hc | hc <;> simp [hc]
    wp_walk
    refine wpAny_ite_false (decide_eq_false e1) ?_
    wp_walk using wpAny_loadPart' hl
    exact ⟨_, rfl, h⟩
theorem tuple_mul_new (l : Addr) (items : Array Value) (n : Nat) (dd : Option Addr) (sl : Array (Option Value)) (x : Int) (u : Tok) (h1 : -(2 ^ 63) ≤ x) (h2 : x < 2 ^ 63) (hc : ¬ (items.isEmpty = true ∨ x = 1)) (hz : items.size * x.toNat ≤ sizeLine) :
    Meets (Builtin.«tuple.__mul__» ⟨[.ref l, .int x u], []⟩) (fun _ R s => s.heap.get? l = some { cls := .type "tuple", dict := dd, data := .seq items n, slots := sl } ∧ R (.ok (.ret (Value.ref s.heap.objs.size))) { s with heap := s.heap.push { cls := Value.type "tuple", data := Data.seq (List.replicate x.toNat items.toList).flatten.toArray }, toks := s.toks }) :=
  .of_wp fun prog w A R s h => by
    obtain ⟨hp, g, d, tk, os⟩ := s; obtain ⟨hl, h⟩ := h
    have f1 := AutoSeq1.idx_int
    have f2 := AutoSeq1.sub_tuple_tuple
    have e1 : ¬ ((decide (x < -(2 ^ 63)) || decide (x ≥ 2 ^ 63)) = true) := by simp; omega
    have e2 : ¬ ((items.isEmpty || x == 1) = true) := by
      rw [Bool.or_eq_true]
      rintro (z | z)
      · exact hc (.inl z)
      · exact hc (.inr (eq_of_beq z))
    have e3 : items.isEmpty = false := by
      cases e : items.isEmpty with
      | false => rfl
      | true => exact absurd (.inl e) hc
    wp_walk
    refine wpAny_ite_false (decide_eq_false e1) ?_
    wp_walk using wpAny_loadPart' hl
    refine wpAny_ite_false (decide_eq_false e2) ?_
    by_cases hx : x ≤ 0
    · refine wpAny_ite_true (by simp [hx]) ?_
      have e0 : x.toNat = 0 := by omega
      rw [e0] at h
      wp_walk
      exact ⟨_, rfl, h⟩
    · refine wpAny_ite_false (by simp [hx, e3]) ?_
      have ex : ((x.toNat : Nat) : Int) = x := by omega
      have em : ((items.size * x.toNat : Nat) : Int) = (items.size : Int) * x := by rw [Int.natCast_mul, ex]
      have hz' : (items.size : Int) * x ≤ 16777216 := by
        have : ((items.size * x.toNat : Nat) : Int) ≤ (sizeLine : Nat) := by exact_mod_cast hz
        rw [em, sizeLine_eq] at this
        exact this
      have hz2 : (items.size : Int) * x > (2 ^ 63 - 1) / 8 → False := by omega
      refine wpAny_ite_false (decide_eq_false hz2) ?_
      refine wpAny_ite_false (decide_eq_false (by simp [Builtin.Tuple.tupleTooMany, sizeLine_eq]; omega)) ?_
      have ef : List.foldl (fun x1 x2 => x1 ++ x2) #[] (List.replicate x.toNat items) = (List.replicate x.toNat items.toList).flatten.toArray := by
        have := foldl_rep items.toList x.toNat []
        simpa using this
      rw [ef]
      have hsz : (List.replicate x.toNat items.toList).flatten.toArray.size ≤ sizeLine := by
        rw [List.size_toArray]
        simp [Nat.mul_comm] at hz ⊢
        exact hz
      wp_walk
      refine wpAny_ite_false (decide_eq_false (Nat.not_lt.mpr hsz)) ?_
      wp_walk
      exact ⟨_, rfl, h⟩
end
section
theorem repeat_tuple : seqRepeat? (.type "tuple") = pure (some (.builtin "tuple.__mul__")) := by first | rfl | decide +kernel | kernel_rfl
theorem noFill_tuple_mul : fillsNumberSlot (.type "tuple") "mul" = pure false :=
  fillsNumberSlot_seq (id := "tuple.__mul__") (r := some (.builtin "tuple.__rmul__")) F.slot_tuple_mul.lookup (by decide +kernel) F.slot_tuple_rmul.lookup (by decide +kernel)
theorem int_rmul_tuple (a : Int) (t : Tok) (l : Addr) (items : Array Value) (n : Nat) (dd : Option Addr) (sl : Array (Option Value)) :
    Meets (Builtin.«int.__rmul__» ⟨[.int a t, .ref l], []⟩) (fun _ R s => s.heap.get? l = some { cls := .type "tuple", dict := dd, data := .seq items n, slots := sl } ∧ R (.ok (.ret Value.notImplemented)) s) :=
  .of_wp fun prog w A R s h => by obtain ⟨hp, g, d, tk, os⟩ := s; obtain ⟨hl, h⟩ := h; wp_walk; exact ⟨_, rfl, h⟩
end
section
variable {J : Ip} {E : XE} {X : Cx}
theorem op_repT : OpR X (binaryOp .Mult) (fun x y H Q => ∃ a k xs, x = .ref a ∧ y = .int k ∧ SqT X.K H a xs ∧ -(2 ^ 63) ≤ k ∧ k < 2 ^ 63 ∧ xs.length * k.toNat ≤ sizeLine ∧
    (xs = [] ∨ k = 1 → Q (.ref a) H) ∧ (¬ (xs = [] ∨ k = 1) → ∀ p, H p = none → Q (.ref p) (upd H p (.tup (List.replicate k.toNat xs).flatten)))) := by
  intro pins s σ H x y v u Q I rx ry h
  obtain ⟨a, k, xs, rfl, rfl, ha, h1, h2, hz, q1, q2⟩ := h
  cases rx
  obtain ⟨t, rfl⟩ := ry
  obtain ⟨its, r, p1, _⟩ := I.tuple ha
  have hl := r.length
  obtain ⟨⟨cls, dd, data, sl⟩, ho, hc, n, hd⟩ := id p1
  simp only at hc hd
  subst hc hd
  refine wpAny_binaryOp_repeat_ref (T := "tuple") (U := "int") (by decide) ⟨_, ho, rfl⟩ (fun s' => typeIs_int s' k t) noFill_tuple_mul F.fills_int_mul F.slot_int_rmul repeat_tuple F.slot_int_index.lookup
    (call_meets F.slot_int_rmul (typeIs_int s k t) F.entry_int_rmul (F.args_int_rmul_2 _ _) (int_rmul_tuple k t a its.toArray n dd sl)
      ⟨ho, rfl, ⟨_, ho, rfl⟩, ?_⟩)
  by_cases hc : xs = [] ∨ k = 1
  · refine call_meets F.slot_tuple_mul ⟨_, ho, rfl⟩ F.entry_tuple_mul (F.args_tuple_mul_2 _ _) (tuple_mul_same a its.toArray n dd sl k t h1 h2 (hc.imp (fun z => ?_) id)) ⟨ho, .ref a, H, I, rfl, q1 hc⟩
    subst z; cases r; rfl
  · refine call_meets F.slot_tuple_mul ⟨_, ho, rfl⟩ F.entry_tuple_mul (F.args_tuple_mul_2 _ _) (tuple_mul_new a its.toArray n dd sl k t h1 h2 (fun z => hc (z.imp (fun z => ?_) id)) (by rw [List.size_toArray, ← hl]; exact hz)) ⟨ho, ?_⟩
    · cases r with
      | nil => rfl
      | cons _ _ => simp at z
    · refine ⟨.ref s.heap.objs.size, _, I.laid (t' := s.toks) (o := .tup (List.replicate k.toNat xs).flatten) (fun b ob q => Heap.get?_push_of_some _ q) (Nat.le_refl _) ?_, rfl, q2 hc _ (I.hok.fresh (Nat.le_refl _))⟩
      exact ⟨by simp [Nat.mul_comm] at hz ⊢; exact hz, _, Vals.rep r k.toNat, IsTupN.new _ _⟩
theorem RDs.rep {K : PySem.W.Frag} {H : Hp} {μ : List Addr} {ds : List D} {vs : List V} (r : RDs J K H μ ds vs) : ∀ k : Nat, RDs J K H μ (List.replicate k ds).flatten (List.replicate k vs).flatten
  | 0 => .nil
  | k + 1 => by rw [List.replicate_succ, List.replicate_succ, List.flatten_cons, List.flatten_cons]; exact RDs.append r (RDs.rep r k)
theorem o_mul : OpM J E X (binaryOp .Mult) mulD := by
  refine ⟨_, OpR.or op_mul (OpR.or op_repT op_rep), fun H μ S x y v u Q rp rx ry p => ?_⟩
  unfold mulD at p
  split at p
  · split at p
    · rename_i i j _ d e
      cases rx; cases ry
      unfold mulI at e
      split at e
      · rename_i hc
        cases e
        exact .inl ⟨i, j, rfl, rfl, hc, p μ H _ .refl rp (.int _)⟩
      · cases e
    · exact p.elim
  · unfold gd at p
    split at p
    · rename_i xs k hc
      cases rx with
      | tup hx rxs =>
      cases ry
      have l1 := rxs.length
      refine .inr (.inl ⟨_, k, _, rfl, rfl, hx, by omega, by omega, by rw [← l1]; exact hc.2.2, fun z => ?_, fun _ q hq => p _ _ _ (Ext.laid hq) (rp.laid hq) (.tup (SqT.of upd_same) ((RDs.rep rxs _).mono (Ext.laid hq)))⟩)
      refine p μ H _ .refl rp ?_
      rcases z with rfl | rfl
      · cases rxs
        have e : (List.replicate k.toNat ([] : List D)).flatten = [] := by simp
        rw [e]
        exact .tup hx .nil
      · have e : (List.replicate (1 : Int).toNat xs).flatten = xs := by simp
        rw [e]
        exact .tup hx rxs
    · exact p.elim
  · split at p
    · rename_i l k xs hs
      unfold gd at p
      split at p
      · rename_i hc
        cases rx with
        | loc hx =>
        cases ry
        obtain ⟨vs, h1, r1⟩ := rp.lst hx hs
        have l1 := r1.length
        refine .inr (.inr ⟨_, _, _, rfl, rfl, h1, by omega, by omega, by rw [← l1]; exact hc.2.2, fun q hq => p _ _ _ (Ext.alloc hq) (rp.alloc hq ⟨_, upd_same, (RDs.rep r1 _).mono (Ext.alloc hq)⟩) (.loc ?_)⟩)
        rw [List.getElem?_append_right (by rw [rp.len]; exact Nat.le_refl _), rp.len]
        simp
      · exact p.elim
    · exact p.elim
  · exact p.elim
end
end SH
set_option Elab.async false
set_option linter.all false
set_option maxRecDepth 100000
set_option maxHeartbeats 4000000
namespace SH
open PySem PySem.Spec L2
section
variable {J : Ip} {K : PySem.W.Frag} {H : Hp} {μ : List Addr}
theorem RDs.at {ds : List D} {vs : List V} {i : Int} {d : D} (r : RDs J K H μ ds vs) (e : atI ds i = some d) : ∃ v, atI vs i = some v ∧ RD J K H μ d v := by
  unfold atI at e ⊢
  obtain ⟨j, h1, h2⟩ := Option.bind_eq_some_iff.mp e
  obtain ⟨v, h3, h4⟩ := r.get h2
  refine ⟨v, ?_, h4⟩
  rw [← r.length, h1]
  exact h3
end
def itemsD (S : Store) : D → Option (List D)
  | .tup xs => some xs
  | .con xs => some xs
  | .loc l => match S[l]? with
    | some (.lst xs) => some xs
    | _ => none
  | _ => none
def ixD : D → D → M D := fun x y S => match y with
  | .int i => match itemsD S x with
    | some xs => match atI xs i with
      | some d => .ok d S
      | none => .bad
    | none => .bad
  | _ => .bad
def cutD (xs : List D) (lo hi : Option Int) : List D := (xs.drop (HT.sIx xs.length 0 lo)).take (HT.sIx xs.length xs.length hi - HT.sIx xs.length 0 lo)
def slD (x : D) (lo hi : Option Int) : M D := fun S => match x with
  | .tup xs => .ok (.tup (cutD xs lo hi)) S
  | .con xs => .ok (.loc S.length) (S ++ [.lst (cutD xs lo hi)])
  | .loc l => match S[l]? with
    | some (.lst xs) => .ok (.loc S.length) (S ++ [.lst (cutD xs lo hi)])
    | _ => .bad
  | _ => .bad
def pN : Env → M (Option Int) := fun _ S => .ok none S
def pS (a : Env → M D) : Env → M (Option Int) := fun ρ S => (a ρ S).bind fun x S1 => match x with
  | .int i => .ok (some i) S1
  | _ => .bad
def eSl (a : Env → M D) (lo hi : Env → M (Option Int)) : Env → M D := fun ρ S => (a ρ S).bind fun x S1 => (lo ρ S1).bind fun l S2 => (hi ρ S2).bind fun u => slD x l u
section
variable {J : Ip} {E : XE} {X : Cx} {e a b : Expr} {ma mb : Env → M D} {pos p2 : Pos} {lo hi : Option Expr} {ml mh : Env → M (Option Int)}
theorem items_sq {H : Hp} {μ : List Addr} {S : Store} {x : D} {v : V} {xs : List D} (rp : Rp J X.K H μ S) (rx : RD J X.K H μ x v) (e : itemsD S x = some xs) : ∃ q vs, v = .ref q ∧ (SqL X.K H q vs ∨ SqT X.K H q vs) ∧ RDs J X.K H μ xs vs := by
  unfold itemsD at e
  split at e
  · cases e; cases rx with
    | tup h r => exact ⟨_, _, rfl, .inr h, r⟩
  · cases e; cases rx with
    | con h r => exact ⟨_, _, rfl, .inl h.sq, r⟩
  · split at e
    · rename_i hs
      cases e; cases rx with
      | loc h =>
        obtain ⟨vs, h1, r⟩ := rp.lst h hs
        exact ⟨_, _, rfl, .inl (SqL.of h1), r⟩
    · cases e
  · cases e
theorem e_ix (ha : PE X a (tM J X.K E ma)) (hb : PE X b (tM J X.K E mb)) (hs : PlainIx b) : PE X (.Subscript a b pos) (tM J X.K E (e2 ixD ma mb)) :=
  PE.imp (pe_ix ix_seq ha hb hs) fun σ H Q h => tOp.of (f := ixD) (fun H μ S x y v u Q rp rx ry p => by
    unfold ixD at p
    split at p
    · rename_i i
      cases ry
      split at p
      · rename_i xs e1
        split at p
        · rename_i d e2
          obtain ⟨q, vs, rfl, hq, r⟩ := items_sq rp rx e1
          obtain ⟨w, h1, h2⟩ := r.at e2
          rcases hq with hq | hq
          · exact .inl ⟨q, vs, i, w, rfl, rfl, hq, h1, p μ H w .refl rp h2⟩
          · exact .inr (.inl ⟨q, vs, i, w, rfl, rfl, hq, h1, p μ H w .refl rp h2⟩)
        · exact p.elim
      · exact p.elim
    · exact p.elim) h
theorem sl_whole : SlR X (fun x lo hi H Q => ∃ a xs, x = .ref a ∧ SqT X.K H a xs ∧ (HT.sIx xs.length 0 lo = 0 ∧ HT.sIx xs.length xs.length hi = xs.length) ∧ Q (.ref a) H) := by
  intro pins s σ H x v vl vu lo hi sl Q I rx hs pl pu h
  obtain ⟨a, xs, rfl, hx, hw, q⟩ := h
  cases rx
  obtain ⟨its, r, ht, hz⟩ := I.tuple hx
  have hlen : its.toArray.size = xs.length := by rw [List.size_toArray]; exact r.length.symm
  refine ⟨"tuple", _, PyProof.Rows.slot_tuple_getitem.lookup, ht.typeIs, ?_⟩
  obtain ⟨os, hos, hcs, hds⟩ := id hs
  have hTs : s.TypeIs (.ref sl) "slice" := ⟨os, hos, hcs⟩
  unfold getItem
  try with_reducible refine wpAny_holding ?_
  first | refine wpAny_bind (wpAny_pure ?_) | skip
  refine wpAny_bind (wpAny_sequenceKey ht.typeIs (by decide) ?_)
  refine wpAny_bind (wpAny_callSpecial?_slot (name := Str.ofString "__getitem__") ht.typeIs PyProof.Rows.slot_tuple_getitem
    (wpAny_call_entry PyProof.Rows.slot_tuple_getitem ht.typeIs PyProof.Rows.entry_tuple_getitem ?_ (PyProof.Rows.args_tuple_getitem _ _)))
  show wpAny _ _ (Builtin.Tuple.tupleItemsOf (.ref a) >>= _) _ _ s
  refine wpAny_bind (PyProof.Rows.tupleItemsOf_ ht ?_)
  refine wpAny_bind (wpAny_typeOf hTs ?_)
  rw [if_pos (by decide)]
  refine wpAny_bind (HT.sliceApplied_gen hs pl pu ?_)
  rw [hlen, hw.1, hw.2]
  show wpAny _ _ (if ((((0 : Nat) : Int) == 0 && (1 : Int) == 1 && (xs.length - 0) == xs.length) = true) then _ else _) _ _ s
  rw [if_pos (by simp)]
  have hT := ht.typeIs
  refine wpAny_bind (m := Builtin.Tuple.tupleIsExact (.ref a)) ?_
  unfold Builtin.Tuple.tupleIsExact
  refine wpAny_bind (wpAny_typeOf hT (wpAny_pure ?_))
  show wpAny _ _ (if ((Value.type "tuple" == Value.type "tuple") = true) then _ else _) _ _ s
  rw [if_pos (by decide)]
  refine wpAny_bind (wpAny_rule (wpAny_pure ⟨_, rfl, wpAny_pure ⟨.ref a, H, I, rfl, q⟩⟩))
def PostO (J : Ip) (K : PySem.W.Frag) (E : XE) (H : Hp) (μ : List Addr) (r : R (Option Int)) (Q : Option Int → Hp → Prop) : Prop := match r with
  | .ok b S' => ∀ μ' H', Ext H μ H' μ' → Rp J K H' μ' S' → Q b H'
  | .exc c S' => ∀ μ' H', Ext H μ H' μ' → Rp J K H' μ' S' → E c H'
  | .bad => False
def tP (J : Ip) (K : PySem.W.Frag) (E : XE) (m : Env → M (Option Int)) : TO := fun σ H Q => ∃ μ S ρ, Rp J K H μ S ∧ EnvR J K H μ ρ σ ∧ PostO J K E H μ (m ρ S) Q
theorem PO.imp {o : Option Expr} {t t' : TO} (h : PO X o t) (k : ∀ σ H Q, t' σ H Q → t σ H Q) : PO X o t' := fun pins s σ H Q I q => h pins s σ H Q I (k σ H Q q)
theorem p_none : PO X none (tP J X.K E pN) := PO.imp po_none fun σ H Q ⟨μ, S, ρ, rp, re, p⟩ => p μ H .refl rp
theorem PostO.step {H : Hp} {μ : List Addr} {r : R D} {f : D → M (Option Int)} {Q : Option Int → Hp → Prop} (p : PostO J X.K E H μ (r.bind f) Q) :
    Post J X.K E H μ r fun v H1 => ∃ μ1 S1 d, Ext H μ H1 μ1 ∧ Rp J X.K H1 μ1 S1 ∧ RD J X.K H1 μ1 d v ∧ PostO J X.K E H1 μ1 (f d S1) Q := by
  cases r with
  | ok d S =>
    refine fun μ1 H1 v e rp rd => ⟨μ1, S, d, e, rp, rd, ?_⟩
    have p : PostO J X.K E H μ (f d S) Q := p
    cases h : f d S with
    | ok o S2 => rw [h] at p; exact fun μ2 H2 x => p μ2 H2 (e.trans x)
    | exc c S2 => rw [h] at p; exact fun μ2 H2 x => p μ2 H2 (e.trans x)
    | bad => rw [h] at p; exact p
  | exc c S => exact p
  | bad => exact p
theorem Post.stepO {H : Hp} {μ : List Addr} {r : R (Option Int)} {f : Option Int → M D} {Q : VK} (p : Post J X.K E H μ (r.bind f) Q) :
    PostO J X.K E H μ r fun o H1 => ∃ μ1 S1, Ext H μ H1 μ1 ∧ Rp J X.K H1 μ1 S1 ∧ Post J X.K E H1 μ1 (f o S1) Q := by
  cases r with
  | ok d S => exact fun μ1 H1 e rp => ⟨μ1, S, e, rp, Post.later e p⟩
  | exc c S => exact p
  | bad => exact p
theorem PostO.mono {H : Hp} {μ : List Addr} {r : R (Option Int)} {Q Q' : Option Int → Hp → Prop} (p : PostO J X.K E H μ r Q) (h : ∀ v H', Q v H' → Q' v H') : PostO J X.K E H μ r Q' := by
  cases r with
  | ok d S => exact fun μ2 H2 x y => h _ _ (p μ2 H2 x y)
  | exc c S => exact p
  | bad => exact p
theorem p_some (h : PE X e (tM J X.K E ma)) : PO X (some e) (tP J X.K E (pS ma)) := PO.imp (po_some h) fun σ H Q ⟨μ, S, ρ, rp, re, p⟩ => by
  refine ⟨μ, S, ρ, rp, re, Post.mono (PostO.step p) ?_⟩
  rintro v H1 ⟨μ1, S1, d, x1, rp1, rd1, p1⟩
  split at p1
  · cases rd1
    exact ⟨_, rfl, p1 μ1 H1 .refl rp1⟩
  · exact p1.elim
theorem cut_rd {H : Hp} {μ : List Addr} {xs : List D} {vs : List V} (r : RDs J X.K H μ xs vs) (lo hi : Option Int) : RDs J X.K H μ (cutD xs lo hi) (cutV vs lo hi) := by
  unfold cutD cutV
  rw [r.length]
  exact (r.drop _).take _
theorem cutD_whole {xs : List D} {lo hi : Option Int} (h : HT.sIx xs.length 0 lo = 0 ∧ HT.sIx xs.length xs.length hi = xs.length) : cutD xs lo hi = xs := by
  unfold cutD
  rw [h.1, h.2]
  simp
theorem e_sl (ha : PE X a (tM J X.K E ma)) (hl : PO X lo (tP J X.K E ml)) (hh : PO X hi (tP J X.K E mh)) : PE X (.Subscript a (.Slice lo hi none p2) pos) (tM J X.K E (eSl ma ml mh)) := by
  refine PE.imp (pe_slice (SlR.or sl_list (SlR.or sl_tup sl_whole)) ha hl hh) fun σ H Q ⟨μ, S, ρ, rp, re, p⟩ => ?_
  refine ⟨μ, S, ρ, rp, re, Post.mono (Post.step p) ?_⟩
  rintro v H1 ⟨μ1, S1, d, x1, rp1, rd1, p1⟩
  refine ⟨μ1, S1, ρ, rp1, re.mono x1, PostO.mono (Post.stepO p1) ?_⟩
  rintro l H2 ⟨μ2, S2, x2, rp2, p2⟩
  refine ⟨μ2, S2, ρ, rp2, re.mono (x1.trans x2), PostO.mono (Post.stepO p2) ?_⟩
  rintro u H3 ⟨μ3, S3, x3, rp3, p3⟩
  have rd3 := rd1.mono (x2.trans x3)
  unfold slD at p3
  split at p3
  · cases rd3 with
    | @tup _ ws _ h r =>
      have hl := r.length
      by_cases hw : HT.sIx ws.length 0 l = 0 ∧ HT.sIx ws.length ws.length u = ws.length
      · refine .inr (.inr ⟨_, _, rfl, h, hw, ?_⟩)
        rw [← hl] at hw
        rw [cutD_whole hw] at p3
        exact p3 μ3 H3 _ .refl rp3 (.tup h r)
      · exact .inr (.inl ⟨_, _, rfl, h, hw, fun q hq => p3 _ _ _ (Ext.laid hq) (rp3.laid hq) (.tup (SqT.of upd_same) ((cut_rd r l u).mono (Ext.laid hq)))⟩)
  · cases rd3 with
    | con h r =>
      refine .inl ⟨_, _, rfl, h.sq, fun q hq => p3 _ _ _ (Ext.alloc hq) (rp3.alloc hq ⟨_, upd_same, (cut_rd r l u).mono (Ext.alloc hq)⟩) (.loc ?_)⟩
      rw [List.getElem?_append_right (by rw [rp3.len]; exact Nat.le_refl _), rp3.len]
      simp
  · split at p3
    · rename_i hs
      cases rd3 with
      | loc h =>
        obtain ⟨vs, h1, r⟩ := rp3.lst h hs
        refine .inl ⟨_, _, rfl, SqL.of h1, fun q hq => p3 _ _ _ (Ext.alloc hq) (rp3.alloc hq ⟨_, upd_same, (cut_rd r l u).mono (Ext.alloc hq)⟩) (.loc ?_)⟩
        rw [List.getElem?_append_right (by rw [rp3.len]; exact Nat.le_refl _), rp3.len]
        simp
    · exact p3.elim
  · exact p3.elim
def CallM (J : Ip) (E : XE) (X : Cx) (fv : Value) (f : List D → M D) : Prop :=
  ∃ r, CallR X fv r ∧ ∀ H μ S ds vs Q, Rp J X.K H μ S → RDs J X.K H μ ds vs → Post J X.K E H μ (f ds S) Q → r vs H Q
theorem CallR.or {fv : Value} {r r' : List V → Hp → VK → Prop} (h : CallR X fv r) (h' : CallR X fv r') : CallR X fv (fun xs H Q => r xs H Q ∨ r' xs H Q) := by
  intro pins s σ H xs us Q I rs q
  rcases q with q | q
  · exact h pins s σ H xs us Q I rs q
  · exact h' pins s σ H xs us Q I rs q
theorem tCB.of {f : List D → M D} {as : Env → M (List D)} {r : List V → Hp → VK → Prop} (hr : ∀ H μ S ds vs Q, Rp J X.K H μ S → RDs J X.K H μ ds vs → Post J X.K E H μ (f ds S) Q → r vs H Q) {σ : L2.St} {H : Hp} {Q : VK} (h : tM J X.K E (eA f as) σ H Q) : tCB r (tA J X.K E as) σ H Q := by
  obtain ⟨μ, S, ρ, rp, re, p⟩ := h
  refine ⟨μ, S, ρ, rp, re, ?_⟩
  have q := Post.stepA p
  cases h : as ρ S with
  | ok ds S1 =>
    rw [h] at q
    intro μ1 H1 vs x1 rp1 rds
    obtain ⟨μ2, S2, ds2, x2, rp2, rds2, p2⟩ := q μ1 H1 vs x1 rp1 rds
    exact hr H1 μ2 S2 ds2 vs Q rp2 rds2 p2
  | exc c S1 => rw [h] at q; exact q
  | bad => rw [h] at q; exact q
variable {es : List Expr} {as : Env → M (List D)} {x : Str} {p cpos : Pos} {id T : String}
theorem e_callB {f : List D → M D} (hc : CallM J E X (.builtin id) f) (hg : Gl X x) (hm : X.mg x = none) (hv : bootBuiltins x = some (.builtin id)) (ha : PA X (e :: es) (tA J X.K E as)) (hn : x ≠ "__name__" := by decide) (hdb : (x == ("__debug__" : Str)) = false := by decide)
    (he : starEach (e :: es) X.env = (false, eval e X.env) :: starEach es X.env := by rfl) (hpl : (backTo cpos (starEach es X.env)).any (·.1) = false := by rfl) : PE X (.Call (.Name x p) (e :: es) [] cpos) (tM J X.K E (eA f as)) :=
  let ⟨_, h1, h2⟩ := hc
  PE.imp (pe_callB h1 hg hm hv ha hn hdb he hpl) fun σ H Q h => tCB.of h2 h
theorem e_callTy {f : List D → M D} (hc : CallM J E X (.type T) f) (hg : Gl X x) (hm : X.mg x = none) (hv : bootBuiltins x = some (.type T)) (ha : PA X (e :: es) (tA J X.K E as)) (hn : x ≠ "__name__" := by decide) (hdb : (x == ("__debug__" : Str)) = false := by decide)
    (he : starEach (e :: es) X.env = (false, eval e X.env) :: starEach es X.env := by rfl) (hpl : (backTo cpos (starEach es X.env)).any (·.1) = false := by rfl) : PE X (.Call (.Name x p) (e :: es) [] cpos) (tM J X.K E (eA f as)) :=
  let ⟨_, h1, h2⟩ := hc
  PE.imp (pe_callTy h1 hg hm hv ha hn hdb he hpl) fun σ H Q h => tCB.of h2 h
theorem e_ty {T : String} (hg : Gl X x) (hm : X.mg x = none) (hv : bootBuiltins x = some (.type T)) (hn : x ≠ "__name__" := by decide) (hd : (x == ("__debug__" : Str)) = false := by decide) : PE X (.Name x pos) (tM J X.K E (eC (.ty T))) :=
  e_cst (t := tC .non) (pe_bltn (v := .ty T) hg hm hv rfl hn hd) fun _ _ => .ty T
end
end SH
set_option Elab.async false
set_option linter.all false
set_option maxRecDepth 100000
set_option maxHeartbeats 4000000
namespace SH
open PySem PySem.Spec L2
inductive Kd where | non | bl | int | str | tup | lst | dct
def Kd.nm : Kd → String
  | .non => "NoneType" | .bl => "bool" | .int => "int" | .str => "str" | .tup => "tuple" | .lst => "list" | .dct => "dict"
def Kd.sub : Kd → Kd → Bool
  | .non, .non => true | .bl, .bl => true | .int, .int => true | .str, .str => true | .tup, .tup => true | .lst, .lst => true | .dct, .dct => true
  | .bl, .int => true
  | _, _ => false
def Kd.of : String → Option Kd
  | "bool" => some .bl | "int" => some .int | "str" => some .str | "tuple" => some .tup | "list" => some .lst | "dict" => some .dct
  | _ => none
def kdD (S : Store) : D → Option Kd
  | .non => some .non | .bl _ => some .bl | .int _ => some .int | .str _ => some .str | .tup _ => some .tup | .con _ => some .lst
  | .loc l => match S[l]? with
    | some (.lst _) => some .lst
    | some (.dct _) => some .dct
    | some (.ins _) => none
    | some (.dtt _) => none
    | none => none
  | _ => none
theorem kit_kd (K : PySem.W.Frag) (a b : Kd) (hb : b ≠ .non) : PySem.W.kitOne K (.type a.nm) (.type b.nm) = some (a.sub b) := by
  cases b <;> first | exact absurd rfl hb | (cases a <;> kernel_rfl)
def isiD : List D → M D := fun ds S => match ds with
  | [x, .ty n] => match kdD S x, Kd.of n with
    | some a, some b => .ok (.bl (a.sub b)) S
    | _, _ => .bad
  | _ => .bad
def lenD : List D → M D := fun ds S => match ds with
  | [.str s] => gd (s.length ≤ sizeLine) (.ok (.int s.length) S)
  | [.loc l] => match S[l]? with
    | some (.lst xs) => .ok (.int xs.length) S
    | some (.dct kvs) => .ok (.int kvs.length) S
    | some (.ins _) => .bad
    | some (.dtt _) => .bad
    | none => .bad
  | [.tup xs] => .ok (.int xs.length) S
  | [.con xs] => .ok (.int xs.length) S
  | _ => .bad
def tupD : List D → M D := fun ds S => match ds with
  | [x] => match itemsD S x with
    | some xs => .ok (.tup xs) S
    | none => .bad
  | _ => .bad
def lstD : List D → M D := fun ds S => match ds with
  | [x] => match itemsD S x with
    | some xs => .ok (.loc S.length) (S ++ [.lst xs])
    | none => .bad
  | _ => .bad
def intsO : List D → Option (List Int) := mapO fun d => match d with
  | .int i => some i
  | _ => none
def lItems (S : Store) : D → Option (List D)
  | .con xs => some xs
  | .loc l => match S[l]? with
    | some (.lst xs) => some xs
    | _ => none
  | _ => none
def sumD : List D → M D := fun ds S => match ds with
  | [x] => match lItems S x with
    | some xs => match intsO xs with
      | some ns => .ok (.int ns.sum) S
      | none => .bad
    | none => .bad
  | _ => .bad
def maxD : List D → M D := fun ds S => match ds with
  | [.int i, .int j] => .ok (.int (if j > i then j else i)) S
  | _ => .bad
def minD : List D → M D := fun ds S => match ds with
  | [.int i, .int j] => .ok (.int (if j < i then j else i)) S
  | _ => .bad
def toI : List D → M D := fun ds S => match ds with
  | [.int i] => .ok (.int i) S
  | [.bl k] => .ok (.int (if k = true then 1 else 0)) S
  | _ => .bad
section
variable {J : Ip} {E : XE} {X : Cx}
theorem isi_ok {pins : List (Addr × Obj)} {s : Shared} {σ : L2.St} {H : Hp} {μ : List Addr} {S : Store} {x : D} {v : V} {u : Value} {k b : Kd} {A : Around} {E' : Value → Shared → Prop} {Q : Value → Shared → Prop} (I : Inv X pins σ H s) (rp : Rp J X.K H μ S) (rx : RD J X.K H μ x v) (rv : RelV v u) (e : kdD S x = some k) (hb : b ≠ .non)
    (h : ∀ tk, Q (.bool (k.sub b)) { s with toks := tk }) : wpAny (model X.prog X.w) A (call (.builtin "isinstance") [u, .type b.nm]) Q E' s := by
  cases rx with
  | non => cases e; cases (show u = Value.none from rv); exact PySem.W.kia_one PySem.W.kitx_none I.kIn True.intro (kit_kd X.K .non b hb) (fun z => nomatch z) h
  | bl y => cases e; cases (show u = Value.bool y from rv); exact PySem.W.kia_one PySem.W.kitx_bool I.kIn True.intro (kit_kd X.K .bl b hb) (fun z => nomatch z) h
  | int i => cases e; obtain ⟨t, q⟩ := (show ∃ t, u = Value.int i t from rv); cases q; exact PySem.W.kia_one PySem.W.kitx_int I.kIn True.intro (kit_kd X.K .int b hb) (fun z => nomatch z) h
  | str y => cases e; obtain ⟨t, q⟩ := (show ∃ t, u = Value.str y t from rv); cases q; exact PySem.W.kia_one PySem.W.kitx_str I.kIn True.intro (kit_kd X.K .str b hb) (fun z => nomatch z) h
  | tup hx r =>
    cases e
    cases rv
    obtain ⟨its, _, ⟨o, h1, h2, _⟩, _⟩ := I.tuple hx
    exact PySem.W.kia_one PySem.W.kitx_tuple I.kIn ⟨o, h1, h2⟩ (kit_kd X.K .tup b hb) (fun z => nomatch z) h
  | con hx r =>
    cases e
    cases rv
    obtain ⟨its, _, ⟨o, n, h1, h2, _⟩, _⟩ := I.list hx.sq
    exact PySem.W.kia_one PySem.W.kitx_list I.kIn ⟨o, h1, h2⟩ (kit_kd X.K .lst b hb) (fun z => nomatch z) h
  | @loc l a hl =>
    cases rv
    have e : (match S[l]? with | some (.lst _) => some Kd.lst | some (.dct _) => some Kd.dct | some (.ins _) => none | some (.dtt _) => none | none => none) = some k := e
    split at e
    · rename_i hs
      cases e
      obtain ⟨vs, h1, r⟩ := rp.lst hl hs
      obtain ⟨_, _, n, _, h2⟩ := I.hok _ _ h1
      exact PySem.W.kia_one PySem.W.kitx_list I.kIn ⟨_, h2, rfl⟩ (kit_kd X.K .lst b hb) (fun z => nomatch z) h
    · rename_i hs
      cases e
      obtain ⟨vs, h1, _⟩ := rp.obj _ _ _ hl hs
      obtain ⟨_, _, vs, _, p⟩ := I.hok _ _ h1
      obtain ⟨o, es, ep, h1, h2, _⟩ := p
      exact PySem.W.kia_one PySem.W.kitx_dict I.kIn ⟨o, h1, h2.1⟩ (kit_kd X.K .dct b hb) (fun z => nomatch z) h
    · cases e
    · cases e
    · cases e
  | ext h => cases e
  | ty n => cases e
theorem Kd.of_nm {n : String} {b : Kd} (h : Kd.of n = some b) : n = b.nm ∧ b ≠ .non := by
  unfold Kd.of at h
  split at h <;> cases h <;> exact ⟨rfl, fun z => by cases z⟩
theorem c_isi : CallM J E X (.builtin "isinstance") isiD := by
  refine ⟨fun vs H Q => ∃ μ S x k b v, vs = [v, .ty b.nm] ∧ Rp J X.K H μ S ∧ RD J X.K H μ x v ∧ kdD S x = some k ∧ b ≠ .non ∧ Q (.bl (k.sub b)) H, ?_, fun H μ S ds vs Q rp rds p => ?_⟩
  · intro pins s σ H xs us Q I r h
    obtain ⟨μ, S, x, k, b, v, rfl, rp, rx, e, hb, q⟩ := h
    cases r with
    | cons r1 r2 =>
      cases r2 with
      | cons r3 r4 =>
        cases r4
        cases (show _ = Value.type b.nm from r3)
        exact isi_ok I rp rx r1 e hb fun tk => ⟨.bl _, H, I.tok tk, rfl, q⟩
  · unfold isiD at p
    split at p
    · rename_i x n
      split at p
      · rename_i a b e1 e2
        obtain ⟨rfl, hb⟩ := Kd.of_nm e2
        cases rds with
        | cons r1 r2 =>
          cases r2 with
          | cons r3 r4 =>
            cases r4
            cases r3
            exact ⟨μ, S, x, a, b, _, rfl, rp, r1, e1, hb, p μ H _ .refl rp (.bl _)⟩
      · exact p.elim
    · exact p.elim
theorem rds1 {H : Hp} {μ : List Addr} {d : D} {vs : List V} (r : RDs J X.K H μ [d] vs) : ∃ v, vs = [v] ∧ RD J X.K H μ d v := by
  cases r with
  | cons r1 r2 => cases r2; exact ⟨_, rfl, r1⟩
theorem rds2 {H : Hp} {μ : List Addr} {d e : D} {vs : List V} (r : RDs J X.K H μ [d, e] vs) : ∃ v w, vs = [v, w] ∧ RD J X.K H μ d v ∧ RD J X.K H μ e w := by
  cases r with
  | cons r1 r2 =>
    obtain ⟨w, rfl, r3⟩ := rds1 r2
    exact ⟨_, w, rfl, r1, r3⟩
theorem c_len : CallM J E X (.builtin "len") lenD := by
  refine ⟨_, CallR.or call_len_seq (CallR.or call_len_str call_lenD), fun H μ S ds vs Q rp rds p => ?_⟩
  unfold lenD at p
  split at p
  · unfold gd at p
    split at p
    · obtain ⟨v, rfl, r⟩ := rds1 rds
      cases r
      exact .inr (.inl ⟨_, rfl, by assumption, p μ H _ .refl rp (.int _)⟩)
    · exact p.elim
  · obtain ⟨v, rfl, r⟩ := rds1 rds
    cases r with
    | loc hl =>
    split at p
    · rename_i hs
      obtain ⟨ws, h1, r⟩ := rp.lst hl hs
      rw [r.length] at p
      exact .inl ⟨_, _, rfl, .inl (SqL.of h1), p μ H _ .refl rp (.int _)⟩
    · rename_i kvs hs
      obtain ⟨ws, h1, h2, _⟩ := rp.obj _ _ _ hl hs
      have e : kvs.length = ws.length := by have := congrArg List.length h2; simpa using this
      rw [e] at p
      exact .inr (.inr ⟨_, _, rfl, h1, p μ H _ .refl rp (.int _)⟩)
    · exact p.elim
    · exact p.elim
    · exact p.elim
  · obtain ⟨v, rfl, r⟩ := rds1 rds
    cases r with
    | tup h r =>
    rw [r.length] at p
    exact .inl ⟨_, _, rfl, .inr h, p μ H _ .refl rp (.int _)⟩
  · obtain ⟨v, rfl, r⟩ := rds1 rds
    cases r with
    | con h r =>
    rw [r.length] at p
    exact .inl ⟨_, _, rfl, .inl h.sq, p μ H _ .refl rp (.int _)⟩
  · exact p.elim
theorem loc_new {H H' : Hp} {μ : List Addr} {S : Store} (rp : Rp J X.K H μ S) (q : Addr) : RD J X.K H' (μ ++ [q]) (.loc S.length) (.ref q) := .loc (by
  rw [List.getElem?_append_right (by rw [rp.len]; exact Nat.le_refl _), rp.len]
  simp)
theorem c_lst : CallM J E X (.type "list") lstD := by
  refine ⟨_, call_list_of, fun H μ S ds vs Q rp rds p => ?_⟩
  unfold lstD at p
  split at p
  · obtain ⟨v, rfl, r⟩ := rds1 rds
    split at p
    · rename_i xs e
      obtain ⟨q, ws, rfl, hq, rs⟩ := items_sq rp r e
      exact ⟨q, ws, rfl, hq, fun l hl => p _ _ _ (Ext.alloc hl) (rp.alloc hl ⟨_, upd_same, rs.mono (Ext.alloc hl)⟩) (loc_new rp l)⟩
    · exact p.elim
  · exact p.elim
theorem lItems_sq {H : Hp} {μ : List Addr} {S : Store} {x : D} {v : V} {xs : List D} (rp : Rp J X.K H μ S) (rx : RD J X.K H μ x v) (e : lItems S x = some xs) : ∃ q vs, v = .ref q ∧ SqL X.K H q vs ∧ RDs J X.K H μ xs vs := by
  unfold lItems at e
  split at e
  · cases e; cases rx with
    | con h r => exact ⟨_, _, rfl, h.sq, r⟩
  · split at e
    · rename_i hs
      cases e; cases rx with
      | loc h =>
        obtain ⟨vs, h1, r⟩ := rp.lst h hs
        exact ⟨_, _, rfl, SqL.of h1, r⟩
    · cases e
  · cases e
theorem c_max (hc : X.calm = true) : CallM J E X (.builtin "max") maxD := by
  refine ⟨_, call_max2 hc, fun H μ S ds vs Q rp rds p => ?_⟩
  unfold maxD at p
  split at p
  · obtain ⟨v, w, rfl, r1, r2⟩ := rds2 rds
    cases r1; cases r2
    exact ⟨_, _, rfl, p μ H _ .refl rp (.int _)⟩
  · exact p.elim
theorem c_min (hc : X.calm = true) : CallM J E X (.builtin "min") minD := by
  refine ⟨_, call_min2 hc, fun H μ S ds vs Q rp rds p => ?_⟩
  unfold minD at p
  split at p
  · obtain ⟨v, w, rfl, r1, r2⟩ := rds2 rds
    cases r1; cases r2
    exact ⟨_, _, rfl, p μ H _ .refl rp (.int _)⟩
  · exact p.elim
end
end SH
set_option Elab.async false
set_option linter.all false
set_option maxRecDepth 100000
set_option maxHeartbeats 4000000
namespace SH
open PySem PySem.Spec L2
inductive Fl where
  | nx (ρ : Env) | rt (d : D) | bk (ρ : Env) | ct (ρ : Env)
def PostS (J : Ip) (K : PySem.W.Frag) (E : XE) (H : Hp) (μ : List Addr) (r : R Fl) (De : Ends) : Prop := match r with
  | .ok (.nx ρ) S' => ∀ μ' H' σ', Ext H μ H' μ' → Rp J K H' μ' S' → EnvR J K H' μ' ρ σ' → De.nx σ' H'
  | .ok (.rt d) S' => ∀ μ' H' v, Ext H μ H' μ' → Rp J K H' μ' S' → RD J K H' μ' d v → De.rt v H'
  | .ok (.bk ρ) S' => ∀ μ' H' σ', Ext H μ H' μ' → Rp J K H' μ' S' → EnvR J K H' μ' ρ σ' → De.bk σ' H'
  | .ok (.ct ρ) S' => ∀ μ' H' σ', Ext H μ H' μ' → Rp J K H' μ' S' → EnvR J K H' μ' ρ σ' → De.ct σ' H'
  | .exc c S' => ∀ μ' H', Ext H μ H' μ' → Rp J K H' μ' S' → E c H'
  | .bad => False
def tS (J : Ip) (K : PySem.W.Frag) (E : XE) (m : Env → M Fl) : TS := fun De σ H => ∃ μ S ρ, Rp J K H μ S ∧ EnvR J K H μ ρ σ ∧ PostS J K E H μ (m ρ S) De
def sNil : Env → M Fl := fun ρ S => .ok (.nx ρ) S
def sSeq (a b : Env → M Fl) : Env → M Fl := fun ρ S => (a ρ S).bind fun f S1 => match f with
  | .nx ρ1 => b ρ1 S1
  | f => .ok f S1
def sBk : Env → M Fl := fun ρ S => .ok (.bk ρ) S
def sCt : Env → M Fl := fun ρ S => .ok (.ct ρ) S
def sEx (a : Env → M D) : Env → M Fl := fun ρ S => (a ρ S).bind fun _ S1 => .ok (.nx ρ) S1
def sRet (a : Env → M D) : Env → M Fl := fun ρ S => (a ρ S).bind fun d S1 => .ok (.rt d) S1
def sRetN : Env → M Fl := fun _ S => .ok (.rt .non) S
def sIf (c : Env → M Bool) (a b : Env → M Fl) : Env → M Fl := fun ρ S => (c ρ S).bind fun k S1 => if k = true then a ρ S1 else b ρ S1
def sNever : Env → M Fl := fun _ _ => .bad
abbrev Tg := D → Env → Option Env
def tgN (i : Nat) : Tg := fun d ρ => some (ρ.set i (some d))
def tgs : List Tg → List D → Env → Option Env
  | [], [], ρ => some ρ
  | t :: ts, d :: ds, ρ => (t d ρ).bind fun ρ1 => tgs ts ds ρ1
  | _, _, _ => none
def tgT (ts : List Tg) : Tg := fun d ρ => match d with
  | .tup ds => tgs ts ds ρ
  | _ => none
def sAsg (a : Env → M D) (t : Tg) : Env → M Fl := fun ρ S => (a ρ S).bind fun d S1 => match t d ρ with
  | some ρ1 => .ok (.nx ρ1) S1
  | none => .bad
section
variable {J : Ip} {E : XE} {X : Cx} {e c : Expr} {st : Stmt} {sts a b : List Stmt} {pos : Pos} {ma : Env → M D} {mc : Env → M Bool} {m1 m2 : Env → M Fl}
theorem PostS.later {H H' : Hp} {μ μ' : List Addr} {r : R Fl} {De : Ends} (e : Ext H μ H' μ') (p : PostS J X.K E H μ r De) : PostS J X.K E H' μ' r De := by
  cases r with
  | ok f S => cases f <;> exact fun μ2 H2 v x => p μ2 H2 v (e.trans x)
  | exc c S => exact fun μ2 H2 x => p μ2 H2 (e.trans x)
  | bad => exact p
theorem PostS.step {H : Hp} {μ : List Addr} {r : R D} {f : D → M Fl} {De : Ends} (p : PostS J X.K E H μ (r.bind f) De) :
    Post J X.K E H μ r fun v H1 => ∃ μ1 S1 d, Ext H μ H1 μ1 ∧ Rp J X.K H1 μ1 S1 ∧ RD J X.K H1 μ1 d v ∧ PostS J X.K E H1 μ1 (f d S1) De := by
  cases r with
  | ok d S => exact fun μ1 H1 v e rp rd => ⟨μ1, S, d, e, rp, rd, PostS.later e p⟩
  | exc c S => exact p
  | bad => exact p
theorem PostS.stepB {H : Hp} {μ : List Addr} {r : R Bool} {f : Bool → M Fl} {De : Ends} (p : PostS J X.K E H μ (r.bind f) De) :
    PostB J X.K E H μ r fun b H1 => ∃ μ1 S1, Ext H μ H1 μ1 ∧ Rp J X.K H1 μ1 S1 ∧ PostS J X.K E H1 μ1 (f b S1) De := by
  cases r with
  | ok d S => exact fun μ1 H1 e rp => ⟨μ1, S, e, rp, PostS.later e p⟩
  | exc c S => exact p
  | bad => exact p
theorem PS.imp {t t' : TS} (h : PS X st t) (k : ∀ De σ H, t' De σ H → t De σ H) : PS X st t' := fun pins s σ H De I q => h pins s σ H De I (k De σ H q)
theorem PSs.imp {t t' : TS} (h : PSs X sts t) (k : ∀ De σ H, t' De σ H → t De σ H) : PSs X sts t' := fun pins s σ H De I q => h pins s σ H De I (k De σ H q)
theorem ss_nil : PSs X [] (tS J X.K E sNil) := PSs.imp pss_nil fun De σ H ⟨μ, S, ρ, rp, re, p⟩ => p μ H σ .refl rp re
theorem ss_cons (h1 : PS X st (tS J X.K E m1)) (h2 : PSs X sts (tS J X.K E m2)) : PSs X (st :: sts) (tS J X.K E (sSeq m1 m2)) := PSs.imp (pss_cons h1 h2) fun De σ H ⟨μ, S, ρ, rp, re, p⟩ => by
  refine ⟨μ, S, ρ, rp, re, ?_⟩
  unfold sSeq at p
  cases h : m1 ρ S with
  | ok f S1 =>
    rw [h] at p
    cases f with
    | nx ρ1 =>
      have p : PostS J X.K E H μ (m2 ρ1 S1) De := p
      exact fun μ1 H1 σ1 x1 rp1 re1 => ⟨μ1, S1, ρ1, rp1, re1, PostS.later x1 p⟩
    | rt d => exact p
    | bk ρ1 => exact p
    | ct ρ1 => exact p
  | exc c S1 => rw [h] at p; exact p
  | bad => rw [h] at p; exact p
theorem ss_one (h1 : PS X st (tS J X.K E m1)) : PSs X [st] (tS J X.K E m1) := pss_one h1
theorem s_expr (he : PE X e (tM J X.K E ma)) (hs : swapsWith e none pos.line X.env = pure false := by rfl) : PS X (.Expr e pos) (tS J X.K E (sEx ma)) := PS.imp (ps_expr he hs) fun De σ H ⟨μ, S, ρ, rp, re, p⟩ => by
  refine ⟨μ, S, ρ, rp, re, Post.mono (PostS.step p) ?_⟩
  rintro v H1 ⟨μ1, S1, d, x1, rp1, rd1, p1⟩
  exact p1 μ1 H1 σ .refl rp1 (re.mono x1)
theorem s_ret (he : PE X e (tM J X.K E ma)) : PS X (.Return (some e) pos) (tS J X.K E (sRet ma)) := PS.imp (ps_ret he) fun De σ H ⟨μ, S, ρ, rp, re, p⟩ => by
  refine ⟨μ, S, ρ, rp, re, Post.mono (PostS.step p) ?_⟩
  rintro v H1 ⟨μ1, S1, d, x1, rp1, rd1, p1⟩
  exact p1 μ1 H1 v .refl rp1 rd1
theorem s_if (hc : PT X c (tT J X.K E mc)) (ha : PSs X a (tS J X.K E m1)) (hb : PSs X b (tS J X.K E m2)) : PS X (.If c a b pos) (tS J X.K E (sIf mc m1 m2)) := PS.imp (ps_if hc ha hb) fun De σ H ⟨μ, S, ρ, rp, re, p⟩ => by
  refine ⟨μ, S, ρ, rp, re, PostB.mono (PostS.stepB p) ?_⟩
  rintro k H1 ⟨μ1, S1, x1, rp1, p1⟩
  cases k with
  | true => exact ⟨μ1, S1, ρ, rp1, re.mono x1, p1⟩
  | false => exact ⟨μ1, S1, ρ, rp1, re.mono x1, p1⟩
theorem ss_never : PSs X sts (tS J X.K E sNever) := fun _ _ _ _ _ _ ⟨_, _, _, _, _, p⟩ => False.elim p
def GOk (J : Ip) (K : PySem.W.Frag) (g : TG) (vs : List Nat) (t : Tg) : Prop :=
  ∀ v σ H Q μ ρ ρ' d, EnvR J K H μ ρ σ → RD J K H μ d v → t d ρ = some ρ' → (∀ σ', EnvR J K H μ ρ' σ' → wipe σ' vs = wipe σ vs → Q σ' H) → g v σ H Q
def GsOk (J : Ip) (K : PySem.W.Frag) (g : TGs) (vs : List Nat) (ts : List Tg) : Prop :=
  ∀ us σ H Q μ ρ ρ' ds, EnvR J K H μ ρ σ → RDs J K H μ ds us → tgs ts ds ρ = some ρ' → (∀ σ', EnvR J K H μ ρ' σ' → wipe σ' vs = wipe σ vs → Q σ' H) → g us σ H Q
theorem EnvR.set {K : PySem.W.Frag} {H : Hp} {μ : List Addr} {ρ : Env} {σ : L2.St} {i : Nat} {d : D} {v : V} (re : EnvR J K H μ ρ σ) (rd : RD J K H μ d v) : EnvR J K H μ (ρ.set i (some d)) (σ.set i (some v)) := by
  have hl := re.len
  refine ⟨by rw [List.length_set, List.length_set]; exact hl, fun k d' e => ?_⟩
  by_cases hk : i = k
  · subst hk
    have hi : i < ρ.length := by
      have := (List.getElem?_eq_some_iff.mp e).1
      simpa using this
    rw [List.getElem?_set_self hi] at e
    cases e
    exact ⟨v, by rw [List.getElem?_set_self (by omega)], rd⟩
  · rw [List.getElem?_set_ne hk] at e
    obtain ⟨w, h1, h2⟩ := re.get k d' e
    exact ⟨w, by rw [List.getElem?_set_ne hk]; exact h1, h2⟩
theorem wipe_set {σ : L2.St} {i : Nat} {o : Option V} : ∀ {vs : List Nat}, i ∈ vs → wipe (σ.set i o) vs = wipe σ vs
  | v :: vs, h => by
    unfold wipe
    by_cases hi : i = v
    · subst hi
      by_cases hm : i ∈ vs
      · rw [wipe_set hm]
      · have go : ∀ ws : List Nat, i ∉ ws → wipe (σ.set i o) ws = (wipe σ ws).set i o := by
          intro ws
          induction ws with
          | nil => intro _; rfl
          | cons u us ih =>
            intro h
            unfold wipe
            rw [ih (fun z => h (List.mem_cons_of_mem _ z)), List.set_comm _ _ (fun z => h (by rw [z]; exact List.mem_cons_self))]
        rw [go vs hm, List.set_set]
    · rw [wipe_set ((List.mem_cons.mp h).resolve_left hi)]
theorem g_name {i : Nat} {vs : List Nat} (h : i ∈ vs) : GOk J X.K (gName i) vs (tgN i) := fun v σ H Q μ ρ ρ' d re rd e k => by
  cases e
  exact k _ (re.set rd) (wipe_set h)
theorem gs_nil {vs : List Nat} : GsOk J X.K gNil vs [] := fun us σ H Q μ ρ ρ' ds re rds e k => by
  cases rds with
  | nil => cases e; exact ⟨rfl, k σ re rfl⟩
  | cons _ _ => cases e
theorem gs_cons {g : TG} {gs : TGs} {vs : List Nat} {t : Tg} {ts : List Tg} (h1 : GOk J X.K g vs t) (h2 : GsOk J X.K gs vs ts) : GsOk J X.K (gCons g gs) vs (t :: ts) := fun us σ H Q μ ρ ρ' ds re rds e k => by
  cases rds with
  | nil => cases e
  | cons r rs =>
    obtain ⟨ρ1, e1, e2⟩ := Option.bind_eq_some_iff.mp (show ((t _ ρ).bind fun ρ1 => tgs ts _ ρ1) = some ρ' from e)
    exact ⟨_, _, rfl, h1 _ σ H _ μ ρ ρ1 _ re r e1 fun σ1 re1 w1 => h2 _ σ1 H Q μ ρ1 ρ' _ re1 rs e2 fun σ2 re2 w2 => k σ2 re2 (w2.trans w1)⟩
theorem tgs_len : ∀ {ts : List Tg} {ds : List D} {ρ ρ' : Env}, tgs ts ds ρ = some ρ' → ds.length = ts.length
  | [], [], _, _, _ => rfl
  | t :: ts, d :: ds, ρ, ρ', e => by
    obtain ⟨ρ1, e1, e2⟩ := Option.bind_eq_some_iff.mp (show ((t d ρ).bind fun ρ1 => tgs ts ds ρ1) = some ρ' from e)
    rw [List.length_cons, List.length_cons, tgs_len e2]
  | [], _ :: _, _, _, e => by cases e
  | _ :: _, [], _, _, e => by cases e
theorem g_tup {gs : TGs} {vs : List Nat} {ts : List Tg} {n : Nat} (h : GsOk J X.K gs vs ts) (hn : ts.length = n) : GOk J X.K (gTup X.K n gs) vs (tgT ts) := fun v σ H Q μ ρ ρ' d re rd e k => by
  unfold tgT at e
  split at e
  · cases rd with
    | tup hx rs =>
      exact ⟨_, _, rfl, hx, by rw [← rs.length, tgs_len e]; exact hn, h _ σ H Q μ ρ ρ' _ re rs e k⟩
  · cases e
theorem s_asg {tg : Expr} {g : TG} {vs : List Nat} {t : Tg} (he : PE X e (tM J X.K E ma)) (hg : PG X tg g) (hk : GOk J X.K g vs t) (hs : swapsWithSole [tg] e pos.line X.env = pure false := by rfl) (hw : swappedStores [tg] e X.env = pure none := by rfl)
    (h1 : (assignEach [tg] X.env).map (·.2) = [assign tg X.env] := by rfl) : PS X (.Assign [tg] e pos) (tS J X.K E (sAsg ma t)) := PS.imp (ps_asg he hg hs hw h1) fun De σ H ⟨μ, S, ρ, rp, re, p⟩ => by
  refine ⟨μ, S, ρ, rp, re, Post.mono (PostS.step p) ?_⟩
  rintro v H1 ⟨μ1, S1, d, x1, rp1, rd1, p1⟩
  cases h : t d ρ with
  | none => rw [h] at p1; exact p1.elim
  | some ρ1 =>
    rw [h] at p1
    exact hk v σ H1 _ μ1 ρ ρ1 d (re.mono x1) rd1 h fun σ' re' _ => p1 μ1 H1 σ' .refl rp1 re'
theorem s_set {i : Nat} {x : Str} {pos' : Pos} (hN : X.N.Nodup) (hi : X.N[i]? = some x) (hx : Loc X.env.scope x) (he : PE X e (tM J X.K E ma)) (hs : swapsWith e (some (.Name x pos')) pos.line X.env = pure false := by rfl) (hf : X.fn x = true ∨ X.env.scope.names.lookup x = some .local := by first | exact .inl rfl | exact .inr rfl | assumption) :
    PS X (.Assign [.Name x pos'] e pos) (tS J X.K E (sAsg ma (tgN i))) := PS.imp (ps_set hN hi hx he hs hf) fun De σ H ⟨μ, S, ρ, rp, re, p⟩ => by
  refine ⟨μ, S, ρ, rp, re, Post.mono (PostS.step p) ?_⟩
  rintro v H1 ⟨μ1, S1, d, x1, rp1, rd1, p1⟩
  exact p1 μ1 H1 _ .refl rp1 ((re.mono x1).set rd1)
end
end SH
set_option Elab.async false
set_option linter.all false
set_option maxRecDepth 100000
set_option maxHeartbeats 4000000
namespace SH
open PySem PySem.Spec L2
open Classical
structure Src where
  items : List D
  ok : Store → Prop
def SrcR (J : Ip) (K : PySem.W.Frag) (H1 : Hp) (μ1 : List Addr) (Jt : It) (s : Src) : Prop :=
  ∀ H μ S i, (∀ b o, H1 b = some o → imm o = true → H b = some o) → (∃ r, μ = μ1 ++ r) → Rp J K H μ S → s.ok S → (∀ d, s.items[i]? = some d → Jt.go i H ∧ ∀ x H', Jt.yld i H x H' → ∃ μ', Ext H μ H' μ' ∧ Rp J K H' μ' S ∧ RD J K H' μ' d x) ∧ (s.items.length ≤ i → Jt.stop i H)
def tI (J : Ip) (K : PySem.W.Frag) (E : XE) (m : Env → M Src) : TI := fun σ H R' => ∃ μ S ρ, Rp J K H μ S ∧ EnvR J K H μ ρ σ ∧ match m ρ S with
  | .ok s S1 => ∀ μ1 H1 Jt, Ext H μ H1 μ1 → Rp J K H1 μ1 S1 → SrcR J K H1 μ1 Jt s → R' Jt H1
  | .exc c S1 => ∀ μ1 H1, Ext H μ H1 μ1 → Rp J K H1 μ1 S1 → E c H1
  | .bad => False
def srcD (S : Store) : D → Option Src
  | .tup xs => some ⟨xs, fun _ => True⟩
  | .con xs => some ⟨xs, fun _ => True⟩
  | .loc l => match S[l]? with
    | some (.lst xs) => some ⟨xs, fun S => S[l]? = some (.lst xs)⟩
    | _ => none
  | _ => none
def iV (a : Env → M D) : Env → M Src := fun ρ S => (a ρ S).bind fun d S1 => match srcD S1 d with
  | some s => .ok s S1
  | none => .bad
def rngS (lo hi : Int) : Src := ⟨(List.range (hi - lo).toNat).map fun k => .int (lo + (k : Nat)), fun _ => True⟩
def iR1 (a : Env → M (List D)) : Env → M Src := fun ρ S => (a ρ S).bind fun ds S1 => match ds with
  | [.int j] => gd (-(2 ^ 62) ≤ j ∧ j < 2 ^ 62) (.ok (rngS 0 j) S1)
  | _ => .bad
def iR2 (a : Env → M (List D)) : Env → M Src := fun ρ S => (a ρ S).bind fun ds S1 => match ds with
  | [.int i, .int j] => gd (-(2 ^ 62) ≤ i ∧ i < 2 ^ 62 ∧ -(2 ^ 62) ≤ j ∧ j < 2 ^ 62) (.ok (rngS i j) S1)
  | _ => .bad
noncomputable def forL (s : Src) (t : Tg) (b : Env → M Fl) : List D → Env → M Fl
  | [], ρ => fun S => if s.ok S then .ok (.nx ρ) S else .bad
  | d :: ds, ρ => fun S => if s.ok S then (match t d ρ with
    | some ρ1 => (b ρ1 S).bind fun f S1 => match f with
      | .nx ρ2 => forL s t b ds ρ2 S1
      | .ct ρ2 => forL s t b ds ρ2 S1
      | .bk ρ2 => .ok (.nx ρ2) S1
      | .rt x => .ok (.rt x) S1
    | none => .bad) else .bad
noncomputable def sFor (m : Env → M Src) (t : Tg) (b : Env → M Fl) : Env → M Fl := fun ρ S => (m ρ S).bind fun s S1 => forL s t b s.items ρ S1
def whileN (c : Env → M Bool) (b : Env → M Fl) : Nat → Env → M Fl
  | 0, _ => fun _ => .bad
  | n + 1, ρ => fun S => (c ρ S).bind fun k S1 => if k = true then (b ρ S1).bind fun f S2 => (match f with
      | .nx ρ2 => whileN c b n ρ2 S2
      | .ct ρ2 => whileN c b n ρ2 S2
      | .bk ρ2 => .ok (.nx ρ2) S2
      | .rt x => .ok (.rt x) S2) else .ok (.nx ρ) S1
section
variable {J : Ip} {E : XE} {X : Cx} {e tg iter : Expr} {body : List Stmt} {pos : Pos} {ma : Env → M D} {mc : Env → M Bool} {mb : Env → M Fl} {mi : Env → M Src} {as : Env → M (List D)}
theorem PI.imp {t t' : TI} (h : PI X tg iter t) (k : ∀ σ H R, t' σ H R → t σ H R) : PI X tg iter t' := fun pins s σ H R I q => h pins s σ H R I (k σ H R q)
theorem PI.or {t t' : TI} (h : PI X tg iter t) (h' : PI X tg iter t') : PI X tg iter (fun σ H R => t σ H R ∨ t' σ H R) := fun pins s σ H R I q => by
  rcases q with q | q
  · exact h pins s σ H R I q
  · exact h' pins s σ H R I q
theorem src_list {H : Hp} {μ : List Addr} {a : Addr} {vs : List V} {ds : List D} (h : SqF X.K H a vs) (r : RDs J X.K H μ ds vs) : SrcR J X.K H μ (Itl X.K a) ⟨ds, fun _ => True⟩ := fun H2 μ2 S i xi xp rp2 _ => by
  have h2 := SqF.imm xi h
  have r2 := r.mono0 xi xp
  refine ⟨fun d e => ?_, fun hl => ⟨vs, h2.sq, by rw [← r2.length]; exact hl⟩⟩
  obtain ⟨v, h3, h4⟩ := r2.get e
  refine ⟨⟨vs, v, h2.sq, h3⟩, fun x H' y => ?_⟩
  obtain ⟨rfl, y⟩ := y
  have := y vs h2.sq
  rw [h3] at this; cases this
  exact ⟨μ2, .refl, rp2, h4⟩
theorem src_tup {H : Hp} {μ : List Addr} {a : Addr} {vs : List V} {ds : List D} (h : SqT X.K H a vs) (r : RDs J X.K H μ ds vs) : SrcR J X.K H μ (Itt X.K a) ⟨ds, fun _ => True⟩ := fun H2 μ2 S i xi xp rp2 _ => by
  have h2 := SqT.imm xi h
  have r2 := r.mono0 xi xp
  refine ⟨fun d e => ?_, fun hl => ⟨vs, h2, by rw [← r2.length]; exact hl⟩⟩
  obtain ⟨v, h3, h4⟩ := r2.get e
  refine ⟨⟨vs, v, h2, h3⟩, fun x H' y => ?_⟩
  obtain ⟨rfl, y⟩ := y
  have := y vs h2
  rw [h3] at this; cases this
  exact ⟨μ2, .refl, rp2, h4⟩
theorem src_loc {H : Hp} {μ : List Addr} {a : Addr} {l : Nat} {ds : List D} (h : μ[l]? = some a) : SrcR J X.K H μ (Itl X.K a) ⟨ds, fun S => S[l]? = some (.lst ds)⟩ := fun H2 μ2 S i xi xp rp2 hs => by
  have h2 : μ2[l]? = some a := by
    obtain ⟨r, rfl⟩ := xp
    rw [List.getElem?_append_left (List.getElem?_eq_some_iff.mp h).1]; exact h
  obtain ⟨vs, h3, r3⟩ := rp2.lst h2 hs
  refine ⟨fun d e => ?_, fun hl => ⟨vs, SqL.of h3, by rw [← r3.length]; exact hl⟩⟩
  obtain ⟨v, h4, h5⟩ := r3.get e
  refine ⟨⟨vs, v, SqL.of h3, h4⟩, fun x H' y => ?_⟩
  obtain ⟨rfl, y⟩ := y
  have := y vs (SqL.of h3)
  rw [h4] at this; cases this
  exact ⟨μ2, .refl, rp2, h5⟩
theorem src_rng {H : Hp} {μ : List Addr} (lo hi : Int) : SrcR J X.K H μ (Itr lo (hi - lo).toNat) (rngS lo hi) := fun H2 μ2 S i xi xp rp2 _ => by
  refine ⟨fun d e => ?_, fun hl => ?_⟩
  · unfold rngS at e
    simp only [List.getElem?_map] at e
    cases h : (List.range (hi - lo).toNat)[i]? with
    | none => rw [h] at e; cases e
    | some k =>
      rw [h] at e
      cases e
      obtain ⟨h1, h2⟩ := List.getElem?_eq_some_iff.mp h
      simp at h1 h2
      subst h2
      refine ⟨by show i < (hi - lo).toNat; omega, fun x H' y => ?_⟩
      obtain ⟨rfl, rfl⟩ := y
      exact ⟨μ2, .refl, rp2, .int _⟩
  · have : (hi - lo).toNat ≤ i := by simpa [rngS] using hl
    exact this
theorem i_val (h : PE X e (tM J X.K E ma)) (hp : PI X tg e (iList X.K (tM J X.K E ma)) := by first | exact pi_list (by assumption) | skip) (hq : PI X tg e (iTup X.K (tM J X.K E ma)) := by first | exact pi_tup (by assumption) | skip) : PI X tg e (tI J X.K E (iV ma)) := by
  refine PI.imp (PI.or hp hq) fun σ H R' ⟨μ, S, ρ, rp, re, p⟩ => ?_
  unfold iV at p
  cases h : ma ρ S with
  | exc c S1 => rw [h] at p; exact .inl ⟨μ, S, ρ, rp, re, by rw [h]; exact p⟩
  | bad => rw [h] at p; exact p.elim
  | ok d S1 =>
    rw [h] at p
    have p : (match (match srcD S1 d with | some s => (R.ok s S1 : R Src) | none => .bad) with
      | .ok s S1 => ∀ μ1 H1 Jt, Ext H μ H1 μ1 → Rp J X.K H1 μ1 S1 → SrcR J X.K H1 μ1 Jt s → R' Jt H1
      | .exc c S1 => ∀ μ1 H1, Ext H μ H1 μ1 → Rp J X.K H1 μ1 S1 → E c H1
      | .bad => False) := p
    cases d with
    | tup xs =>
      refine .inr ⟨μ, S, ρ, rp, re, ?_⟩
      rw [h]
      intro μ1 H1 v x1 rp1 rd1
      cases rd1 with
      | tup hx r => exact ⟨_, rfl, ⟨_, hx⟩, p μ1 H1 _ x1 rp1 (src_tup hx r)⟩
    | con xs =>
      refine .inl ⟨μ, S, ρ, rp, re, ?_⟩
      rw [h]
      intro μ1 H1 v x1 rp1 rd1
      cases rd1 with
      | con hx r => exact ⟨_, rfl, ⟨_, hx.sq⟩, p μ1 H1 _ x1 rp1 (src_list hx r)⟩
    | loc l =>
      refine .inl ⟨μ, S, ρ, rp, re, ?_⟩
      rw [h]
      intro μ1 H1 v x1 rp1 rd1
      unfold srcD at p
      cases hs : S1[l]? with
      | none => simp only [hs] at p
      | some o =>
        cases o with
        | dct kvs => simp only [hs] at p
        | dtt kvs => simp only [hs] at p
        | ins fs => simp only [hs] at p
        | lst xs =>
          simp only [hs] at p
          cases rd1 with
          | loc hx =>
            obtain ⟨vs, h1, r⟩ := rp1.lst hx hs
            exact ⟨_, rfl, ⟨_, SqL.of h1⟩, p μ1 H1 _ x1 rp1 (src_loc hx)⟩
    | _ => exact p.elim
theorem rng_args {H : Hp} {μ : List Addr} {r : R (List D)} {f : List D → M Src} {R' : It → Hp → Prop}
    (p : match r.bind f with
      | .ok s S1 => ∀ μ1 H1 Jt, Ext H μ H1 μ1 → Rp J X.K H1 μ1 S1 → SrcR J X.K H1 μ1 Jt s → R' Jt H1
      | .exc c S1 => ∀ μ1 H1, Ext H μ H1 μ1 → Rp J X.K H1 μ1 S1 → E c H1
      | .bad => False) : PostA J X.K E H μ r fun vs H1 => ∃ μ1 S1 ds, Rp J X.K H1 μ1 S1 ∧ RDs J X.K H1 μ1 ds vs ∧ (match f ds S1 with
      | .ok s S1 => ∀ μ2 H2 Jt, Ext H1 μ1 H2 μ2 → Rp J X.K H2 μ2 S1 → SrcR J X.K H2 μ2 Jt s → R' Jt H2
      | .exc c S1 => ∀ μ2 H2, Ext H1 μ1 H2 μ2 → Rp J X.K H2 μ2 S1 → E c H2
      | .bad => False) := by
  cases r with
  | exc c S => exact p
  | bad => exact p
  | ok ds S =>
    intro μ1 H1 vs x1 rp1 rds
    refine ⟨μ1, S, ds, rp1, rds, ?_⟩
    have p : (match f ds S with
      | .ok s S1 => ∀ μ1 H1 Jt, Ext H μ H1 μ1 → Rp J X.K H1 μ1 S1 → SrcR J X.K H1 μ1 Jt s → R' Jt H1
      | .exc c S1 => ∀ μ1 H1, Ext H μ H1 μ1 → Rp J X.K H1 μ1 S1 → E c H1
      | .bad => False) := p
    cases h : f ds S with
    | ok s S1 => rw [h] at p; exact fun μ2 H2 Jt x2 => p μ2 H2 Jt (x1.trans x2)
    | exc c S1 => rw [h] at p; exact fun μ2 H2 x2 => p μ2 H2 (x1.trans x2)
    | bad => rw [h] at p; exact p
theorem PostA.mono {H : Hp} {μ : List Addr} {r : R (List D)} {Q Q' : List V → Hp → Prop} (p : PostA J X.K E H μ r Q) (h : ∀ v H', Q v H' → Q' v H') : PostA J X.K E H μ r Q' := by
  cases r with
  | ok d S => exact fun μ2 H2 vs x y z => h _ _ (p μ2 H2 vs x y z)
  | exc c S => exact p
  | bad => exact p
theorem i_rng1 {a : Expr} {p cp : Pos} (hg : Gl X "range") (hm : X.mg "range" = none) (ha : PA X [a] (tA J X.K E as)) (hs : starEach [a] X.env = [(false, eval a X.env)] := by rfl) : PI X tg (.Call (.Name "range" p) [a] [] cp) (tI J X.K E (iR1 as)) := by
  refine PI.imp (pi_range1 hg hm ha hs) fun σ H R' ⟨μ, S, ρ, rp, re, p⟩ => ?_
  refine ⟨μ, S, ρ, rp, re, PostA.mono (rng_args p) ?_⟩
  rintro vs H1 ⟨μ1, S1, ds, rp1, rds, p1⟩
  split at p1
  · rename_i s S2 e
    split at e
    · unfold gd at e
      split at e
      · rename_i hb
        cases e
        obtain ⟨v, rfl, r⟩ := rds1 rds
        cases r
        have q : ∀ j : Int, SrcR J X.K H1 μ1 (Itr 0 j.toNat) (rngS 0 j) := fun j => by
          have q := src_rng (J := J) (X := X) (H := H1) (μ := μ1) 0 j
          rw [Int.sub_zero] at q
          exact q
        exact ⟨_, rfl, hb.1, hb.2, p1 μ1 H1 _ .refl rp1 (q _)⟩
      · cases e
    · cases e
  · rename_i c S2 e
    split at e
    · unfold gd at e
      split at e <;> cases e
    · cases e
  · exact p1.elim
theorem i_rng2 {a b : Expr} {p cp : Pos} (hg : Gl X "range") (hm : X.mg "range" = none) (ha : PA X [a, b] (tA J X.K E as)) (hs : starEach [a, b] X.env = [(false, eval a X.env), (false, eval b X.env)] := by rfl) (hs2 : starEach [b] X.env = [(false, eval b X.env)] := by rfl) : PI X tg (.Call (.Name "range" p) [a, b] [] cp) (tI J X.K E (iR2 as)) := by
  refine PI.imp (pi_range2 hg hm ha hs hs2) fun σ H R' ⟨μ, S, ρ, rp, re, p⟩ => ?_
  refine ⟨μ, S, ρ, rp, re, PostA.mono (rng_args p) ?_⟩
  rintro vs H1 ⟨μ1, S1, ds, rp1, rds, p1⟩
  split at p1
  · rename_i s S2 e
    split at e
    · unfold gd at e
      split at e
      · rename_i hb
        cases e
        obtain ⟨v, w, rfl, r, r2⟩ := rds2 rds
        cases r; cases r2
        exact ⟨_, _, rfl, hb, p1 μ1 H1 _ .refl rp1 (src_rng _ _)⟩
      · cases e
    · cases e
  · rename_i c S2 e
    split at e
    · unfold gd at e
      split at e <;> cases e
    · cases e
  · exact p1.elim
theorem drop_cons {α : Type} {l : List α} {i : Nat} {d : α} (h : l[i]? = some d) : l.drop i = d :: l.drop (i + 1) := by
  obtain ⟨h1, h2⟩ := List.getElem?_eq_some_iff.mp h
  rw [List.drop_eq_getElem_cons h1, h2]
theorem s_for {g : TG} {vs : List Nat} {t : Tg} (hp : PassesOwn (model X.prog X.w) X.A X.env X.xe) (hc : X.calm = true) (hi : PI X tg iter (tI J X.K E mi)) (hg : PG X tg g) (hk : GOk J X.K g vs t) (hb : PSs X body (tS J X.K E mb))
    (hs : ∀ x, foldedSetIterable iter X.env x = pure x := by intro _; rfl) : PS X (.For tg iter body [] pos) (tS J X.K E (sFor mi t mb)) := by
  refine PS.imp (ps_for hp hc hi hg hb hs) fun De σ H ⟨μ, S, ρ, rp, re, p⟩ => ?_
  refine ⟨μ, S, ρ, rp, re, ?_⟩
  unfold sFor at p
  cases h : mi ρ S with
  | exc c S1 => rw [h] at p; exact p
  | bad => rw [h] at p; exact p
  | ok s S1 =>
    rw [h] at p
    have p : PostS J X.K E H μ (forL s t mb s.items ρ S1) De := p
    intro μ1 H1 Jt x1 rp1 sr
    refine ⟨fun i n σ' H' => n = s.items.length - i ∧ i ≤ s.items.length ∧ ∃ μ' S' ρ', Ext H1 μ1 H' μ' ∧ Rp J X.K H' μ' S' ∧ EnvR J X.K H' μ' ρ' σ' ∧ PostS J X.K E H' μ' (forL s t mb (s.items.drop i) ρ' S') De,
      ⟨s.items.length, by simp, Nat.zero_le _, μ1, S1, ρ, .refl, rp1, re.mono x1, PostS.later x1 p⟩, ?_⟩
    rintro i n σ' H' ⟨rfl, hil, μ', S', ρ', x', rp', re', p'⟩
    cases hd : s.items[i]? with
    | none =>
      have hle : s.items.length ≤ i := List.getElem?_eq_none_iff.mp hd
      rw [List.drop_of_length_le hle] at p'
      unfold forL at p'
      split at p'
      · rename_i hok
        exact .inl ⟨(sr H' μ' S' i x'.imm x'.pre rp' hok).2 hle, p' μ' H' σ' .refl rp' re'⟩
      · exact p'.elim
    | some d =>
      rw [drop_cons hd] at p'
      have hlt : i < s.items.length := (List.getElem?_eq_some_iff.mp hd).1
      unfold forL at p'
      split at p'
      · rename_i hok
        obtain ⟨go, yl⟩ := (sr H' μ' S' i x'.imm x'.pre rp' hok).1 d hd
        refine .inr ⟨go, fun σ2 H2 => ∃ μ2 S2 ρ2, Ext H1 μ1 H2 μ2 ∧ Rp J X.K H2 μ2 S2 ∧ EnvR J X.K H2 μ2 ρ2 σ2 ∧ PostS J X.K E H2 μ2 (forL s t mb (s.items.drop (i + 1)) ρ2 S2) De, fun σ2 H2 q => ⟨s.items.length - (i + 1), by omega, rfl, hlt, q⟩, fun x H2 y => ?_⟩
        obtain ⟨μ2, x2, rp2, rd2⟩ := yl x H2 y
        cases ht : t d ρ' with
        | none => rw [ht] at p'; exact p'.elim
        | some ρ1 =>
          rw [ht] at p'
          refine hk x σ' H2 _ μ2 ρ' ρ1 d (re'.mono x2) rd2 ht fun σ3 re3 _ => ⟨μ2, S', ρ1, rp2, re3, ?_⟩
          have p2 := PostS.later x2 p'
          cases hb' : mb ρ1 S' with
          | exc c S3 => simp only [hb'] at p2; exact p2
          | bad => simp only [hb'] at p2; exact p2
          | ok f S3 =>
            simp only [hb'] at p2
            cases f with
            | nx ρ3 => exact fun μ3 H3 σ4 x3 rp3 re4 => ⟨μ3, S3, ρ3, x'.trans (x2.trans x3), rp3, re4, PostS.later x3 p2⟩
            | ct ρ3 => exact fun μ3 H3 σ4 x3 rp3 re4 => ⟨μ3, S3, ρ3, x'.trans (x2.trans x3), rp3, re4, PostS.later x3 p2⟩
            | bk ρ3 => exact p2
            | rt d3 => exact p2
      · exact p'.elim
end
end SH
set_option Elab.async false
set_option linter.all false
set_option maxRecDepth 100000
set_option maxHeartbeats 4000000
namespace SH
open PySem PySem.Spec L2
open Classical
def wipeE (ρ : Env) : List Nat → Env
  | [] => ρ
  | v :: vs => (wipeE ρ vs).set v none
section
variable {J : Ip} {K : PySem.W.Frag} {H H' : Hp} {μ μ' : List Addr}
theorem obr_mono0 {a : Addr} {o : Ob} (hi : ∀ b o, H b = some o → imm o = true → H' b = some o) (hp : ∃ r, μ' = μ ++ r) (hs : H' a = H a) (x : ObR J K H μ a o) : ObR J K H' μ' a o := by
  cases o with
  | lst xs => obtain ⟨vs, h, r⟩ := x; exact ⟨vs, hs.trans h, r.mono0 hi hp⟩
  | dct kvs => obtain ⟨vs, h, k, r⟩ := x; exact ⟨vs, hs.trans h, k, r.mono0 hi hp⟩
  | dtt kvs => obtain ⟨vs, h, k, r⟩ := x; exact ⟨vs, hs.trans h, k, r.mono0 hi hp⟩
  | ins fs => obtain ⟨vs, ⟨C, dx, h, c⟩, k, r⟩ := x; exact ⟨vs, ⟨C, dx, hs.trans h, c⟩, k, r.mono0 hi hp⟩
theorem Rp.adopt {S : Store} {a : Addr} {vs : List V} {xs : List D} (rp : Rp J K H μ S) (hn : a ∉ μ) (ha : H a = some (.lst vs)) (r : RDs J K H μ xs vs) : Rp J K H (μ ++ [a]) (S ++ [.lst xs]) := by
  have hp : ∃ r, μ ++ [a] = μ ++ r := ⟨_, rfl⟩
  refine ⟨by rw [List.length_append, List.length_append, rp.len]; rfl, ?_, fun l b ob e1 e2 => ?_, rp.tab⟩
  · refine List.nodup_append.mpr ⟨rp.nd, by simp, fun x hx b hb => ?_⟩
    rw [List.mem_singleton.mp hb]
    rintro rfl
    exact hn hx
  · by_cases hl : l < μ.length
    · rw [List.getElem?_append_left hl] at e1
      rw [List.getElem?_append_left (by rw [← rp.len]; exact hl)] at e2
      exact obr_mono0 (fun _ _ e _ => e) hp rfl (rp.obj l b ob e1 e2)
    · have hl' : l = μ.length := by
        have := (List.getElem?_eq_some_iff.mp e1).1
        rw [List.length_append] at this
        simp at this
        omega
      subst hl'
      rw [List.getElem?_append_right (Nat.le_refl _)] at e1
      rw [List.getElem?_append_right (by rw [rp.len]; exact Nat.le_refl _), rp.len] at e2
      simp at e1 e2
      subst e1 e2
      exact ⟨vs, ha, r.mono0 (fun _ _ e _ => e) hp⟩
theorem Ext.adopt {H1 : Hp} {μ1 : List Addr} {a : Addr} (x : Ext H1 μ1 H μ) (ha : H1 a = none) : Ext H1 μ1 H (μ ++ [a]) := by
  obtain ⟨r, hr⟩ := x.pre
  refine ⟨⟨r ++ [a], by rw [hr, List.append_assoc]⟩, fun b hb => ?_, x.imm, x.keep⟩
  rcases List.mem_append.mp hb with h | h
  · exact x.new b h
  · rw [List.mem_singleton.mp h]; exact .inr ha
theorem Ext.other {H1 : Hp} {μ1 : List Addr} {a : Addr} {o : HO} (x : Ext H1 μ1 H μ) (ha : H1 a = none) : Ext H1 μ1 (upd H a o) μ :=
  ⟨x.pre, x.new, fun b u e i => by rw [upd_ne (ne_of_none e ha)]; exact x.imm b u e i, fun b u e n => by rw [upd_ne (ne_of_none e ha)]; exact x.keep b u e n⟩
theorem Rp.other {S : Store} {a : Addr} {vs : List V} {o : HO} (rp : Rp J K H μ S) (hn : a ∉ μ) (ha : H a = some (.lst vs)) : Rp J K (upd H a o) μ S := by
  have hi : ∀ b u, H b = some u → imm u = true → (upd H a o) b = some u := fun b u e i => by
    rw [upd_ne]
    · exact e
    · rintro rfl; rw [ha] at e; cases e; cases i
  refine ⟨rp.len, rp.nd, fun l b ob e1 e2 => obr_mono0 hi ⟨[], by simp⟩ ?_ (rp.obj l b ob e1 e2), fun P hP => ?_⟩
  · rw [upd_ne]
    rintro rfl
    exact hn (List.mem_of_getElem? e1)
  · obtain ⟨ps, e, t, tk⟩ := rp.tab P hP
    refine ⟨ps, ?_, t, J.tmono hi tk⟩
    rw [upd_ne]
    · exact e
    · rintro rfl; rw [ha] at e; cases e
theorem RDs.other {a : Addr} {vs : List V} {o : HO} {ds : List D} {us : List V} (r : RDs J K H μ ds us) (ha : H a = some (.lst vs)) : RDs J K (upd H a o) μ ds us :=
  r.mono0 (fun b u e i => by
    rw [upd_ne]
    · exact e
    · rintro rfl; rw [ha] at e; cases e; cases i) ⟨[], by simp⟩
theorem EnvR.other {a : Addr} {vs : List V} {o : HO} {ρ : Env} {σ : L2.St} (r : EnvR J K H μ ρ σ) (ha : H a = some (.lst vs)) : EnvR J K (upd H a o) μ ρ σ := ⟨r.len, fun i d e => by
  obtain ⟨v, h1, h2⟩ := r.get i d e
  exact ⟨v, h1, h2.mono0 (fun b u e i => by
    rw [upd_ne]
    · exact e
    · rintro rfl; rw [ha] at e; cases e; cases i) ⟨[], by simp⟩⟩⟩
theorem Ext.held {a : Addr} {vs : List V} (x : Ext H μ H' μ') (hn : a ∉ μ) (ha : H a = some (.lst vs)) : H' a = some (.lst vs) ∧ a ∉ μ' := by
  refine ⟨?_, fun m => ?_⟩
  · rcases x.keep a _ ha hn with h | ⟨ps, more, e, _⟩
    · exact h
    · cases e
  · rcases x.new a m with h | h
    · exact hn h
    · rw [ha] at h; cases h
theorem EnvR.wipe {ρ : Env} {σ : L2.St} (r : EnvR J K H μ ρ σ) : ∀ vs : List Nat, EnvR J K H μ (wipeE ρ vs) (L2.wipe σ vs)
  | [] => r
  | v :: vs => by
    have ih := EnvR.wipe r vs
    refine ⟨by unfold wipeE L2.wipe; rw [List.length_set, List.length_set]; exact ih.len, fun i d e => ?_⟩
    unfold wipeE at e
    unfold L2.wipe
    by_cases hv : v = i
    · subst hv
      have hi : v < (wipeE ρ vs).length := by
        have := (List.getElem?_eq_some_iff.mp e).1
        simpa using this
      rw [List.getElem?_set_self hi] at e
      cases e
    · rw [List.getElem?_set_ne hv] at e ⊢
      exact ih.get i d e
end
def nE {α : Type} (r : R α) : R α := match r with
  | .exc _ _ => .bad
  | r => r
noncomputable def lcL (s : Src) (t : Tg) (q : Env → M Bool) (el : Env → M D) (ρ0 : Env) : List D → List D → M (List D)
  | [], acc => fun S => if s.ok S then .ok acc S else .bad
  | d :: ds, acc => fun S => if s.ok S then (match t d ρ0 with
    | some ρ1 => (nE (q ρ1 S)).bind fun k S1 => if k = true then (nE (el ρ1 S1)).bind fun y S2 => gd (acc.length < sizeLine) (lcL s t q el ρ0 ds (acc ++ [y]) S2) else lcL s t q el ρ0 ds acc S1
    | none => .bad) else .bad
def bYes : Env → M Bool := fun _ S => .ok true S
def lcEnd (r : R (List D)) : R D := r.bind fun acc S2 => .ok (.loc S2.length) (S2 ++ [.lst acc])
noncomputable def eLc (m : Env → M Src) (t : Tg) (q : Env → M Bool) (el : Env → M D) (vs : List Nat) : Env → M D := fun ρ S => (m ρ S).bind fun s S1 => lcEnd (lcL s t q el (wipeE ρ vs) s.items [] S1)
section
variable {J : Ip} {E : XE} {X : Cx} {elt tg iter : Expr} {ifs : List Expr} {pos : Pos} {me : Env → M D} {mq : Env → M Bool} {mi : Env → M Src} {scope : Scope} {own : List (Str × Nat)}
theorem ts_nil : PTs X [] (tT J X.K E bYes) := fun pins s σ H Q I ⟨μ, S, ρ, rp, re, p⟩ => pts_nil pins s σ H Q I (p μ H .refl rp)
theorem ts_one {c : Expr} (h : PT X c (tT J X.K E mq)) : PTs X [c] (tT J X.K E mq) := pts_one h
theorem bind_ok {α β : Type} {r : R α} {f : α → M β} {b : β} {S : Store} (h : r.bind f = .ok b S) : ∃ a S1, r = .ok a S1 ∧ f a S1 = .ok b S := by
  cases r with
  | ok a S1 => exact ⟨a, S1, rfl, h⟩
  | exc c S1 => cases h
  | bad => cases h
theorem wipe_wipe (σ : L2.St) (vs : List Nat) : L2.wipe (L2.wipe σ vs) vs = L2.wipe σ vs := by
  have go : ∀ (us vs : List Nat), (∀ v ∈ us, v ∈ vs) → L2.wipe (L2.wipe σ vs) us = L2.wipe σ vs := by
    intro us
    induction us with
    | nil => intro vs _; rfl
    | cons u us ih =>
      intro vs hs
      show (L2.wipe (L2.wipe σ vs) us).set u none = _
      rw [ih vs fun v hv => hs v (List.mem_cons_of_mem _ hv)]
      have hu : u ∈ vs := hs u List.mem_cons_self
      clear hs ih
      induction vs with
      | nil => cases hu
      | cons w ws ihw =>
        show ((L2.wipe σ ws).set w none).set u none = (L2.wipe σ ws).set w none
        rcases List.mem_cons.mp hu with rfl | hu
        · rw [List.set_set]
        · by_cases hwu : w = u
          · subst hwu; rw [List.set_set]
          · rw [List.set_comm _ _ hwu]
            rw [ihw hu]
  exact go vs vs fun _ h => h
def noX : XE := fun _ _ => False
theorem lc_of {g : TG} {vs : List Nat} {t : Tg} (hk : GOk J X.K g vs t) {σ : L2.St} {H : Hp} {Q : VK} (h : tM J X.K E (eLc mi t mq me vs) σ H Q) : tLc (tI J X.K E mi) g (tT J X.K noX mq) (tM J X.K noX me) vs σ H Q := by
  obtain ⟨μ, S, ρ, rp, re, p⟩ := h
  refine ⟨μ, S, ρ, rp, re, ?_⟩
  unfold eLc at p
  cases h : mi ρ S with
  | exc c S1 => rw [h] at p; exact p
  | bad => rw [h] at p; exact p
  | ok s S1 =>
    rw [h] at p
    have p : Post J X.K E H μ (lcEnd (lcL s t mq me (wipeE ρ vs) s.items [] S1)) Q := p
    intro μ1 H1 Jt x1 rp1 sr Dd hD
    have p1 := Post.later x1 p
    refine ⟨fun i n H' => n = s.items.length - i ∧ i ≤ s.items.length ∧ ∃ μ' S' acc av, Ext H1 μ1 H' μ' ∧ Rp J X.K H' μ' S' ∧ Dd ∉ μ' ∧ H' Dd = some (.lst av) ∧ RDs J X.K H' μ' acc av ∧
        Post J X.K E H1 μ1 (lcEnd (lcL s t mq me (wipeE ρ vs) (s.items.drop i) acc S')) Q,
      ⟨s.items.length, by simp, Nat.zero_le _, μ1, S1, [], [], (Ext.refl).other hD, rp1.laid hD, rp1.fresh hD, upd_same, .nil, p1⟩, ?_⟩
    rintro i n H' ⟨rfl, hil, μ', S', acc, av, x', rp', hn', hD', ra', p'⟩
    cases hd : s.items[i]? with
    | none =>
      have hle : s.items.length ≤ i := List.getElem?_eq_none_iff.mp hd
      rw [List.drop_of_length_le hle] at p'
      unfold lcL at p'
      split at p'
      · rename_i hok
        have p2 : ∀ μ2 H2 v, Ext H1 μ1 H2 μ2 → Rp J X.K H2 μ2 (S' ++ [.lst acc]) → RD J X.K H2 μ2 (.loc S'.length) v → Q v H2 := p'
        refine .inl ⟨(sr H' μ' S' i x'.imm x'.pre rp' hok).2 hle, p2 (μ' ++ [Dd]) H' _ (x'.adopt hD) (rp'.adopt hn' hD' ra') (.loc ?_)⟩
        rw [List.getElem?_append_right (by rw [rp'.len]; exact Nat.le_refl _), rp'.len]
        simp
      · exact p'.elim
    | some d =>
      rw [drop_cons hd] at p'
      have hlt : i < s.items.length := (List.getElem?_eq_some_iff.mp hd).1
      unfold lcL at p'
      split at p'
      · rename_i hok
        obtain ⟨go, yl⟩ := (sr H' μ' S' i x'.imm x'.pre rp' hok).1 d hd
        refine .inr ⟨go, fun H2 => ∃ μ2 S2 acc av, Ext H1 μ1 H2 μ2 ∧ Rp J X.K H2 μ2 S2 ∧ Dd ∉ μ2 ∧ H2 Dd = some (.lst av) ∧ RDs J X.K H2 μ2 acc av ∧
          Post J X.K E H1 μ1 (lcEnd (lcL s t mq me (wipeE ρ vs) (s.items.drop (i + 1)) acc S2)) Q, fun H2 q => ⟨s.items.length - (i + 1), by omega, rfl, hlt, q⟩, fun x H2 y => ?_⟩
        obtain ⟨μ2, x2, rp2, rd2⟩ := yl x H2 y
        obtain ⟨hD2, hn2⟩ := x2.held hn' hD'
        have ra2 := ra'.mono x2
        have x12 := x'.trans x2
        cases ht : t d (wipeE ρ vs) with
        | none => rw [ht] at p'; exact p'.elim
        | some ρ1 =>
          rw [ht] at p'
          refine hk x _ H2 _ μ2 (wipeE ρ vs) ρ1 d ((EnvR.wipe (re.mono x1) vs).mono x12) rd2 ht fun σ3 re3 hw3 => ⟨?_, μ2, S', ρ1, rp2, re3, ?_⟩
          · rw [hw3]
            exact wipe_wipe _ _
          · have p2 : Post J X.K E H1 μ1 (lcEnd ((nE (mq ρ1 S')).bind fun k S1 => if k = true then (nE (me ρ1 S1)).bind fun y S2 => gd (acc.length < sizeLine) (lcL s t mq me (wipeE ρ vs) (s.items.drop (i + 1)) (acc ++ [y]) S2) else lcL s t mq me (wipeE ρ vs) (s.items.drop (i + 1)) acc S1)) Q := p'
            cases hq : mq ρ1 S' with
            | exc c S3 => rw [hq] at p2; exact False.elim p2
            | bad => rw [hq] at p2; exact p2
            | ok k S3 =>
              rw [hq] at p2
              intro μ3 H3 x3 rp3
              obtain ⟨hD3, hn3⟩ := x3.held hn2 hD2
              cases k with
              | false => exact ⟨μ3, S3, acc, av, x12.trans x3, rp3, hn3, hD3, ra2.mono x3, p2⟩
              | true =>
                refine ⟨μ3, S3, ρ1, rp3, re3.mono x3, ?_⟩
                have p3 : Post J X.K E H1 μ1 (lcEnd ((nE (me ρ1 S3)).bind fun y S2 => gd (acc.length < sizeLine) (lcL s t mq me (wipeE ρ vs) (s.items.drop (i + 1)) (acc ++ [y]) S2))) Q := p2
                cases he : me ρ1 S3 with
                | exc c S4 => rw [he] at p3; exact False.elim p3
                | bad => rw [he] at p3; exact p3
                | ok y S4 =>
                  rw [he] at p3
                  intro μ4 H4 v x4 rp4 rd4
                  obtain ⟨hD4, hn4⟩ := x4.held hn3 hD3
                  have ra4 := (ra2.mono x3).mono x4
                  have hl4 := ra4.length
                  have p4 : Post J X.K E H1 μ1 (lcEnd (gd (acc.length < sizeLine) (lcL s t mq me (wipeE ρ vs) (s.items.drop (i + 1)) (acc ++ [y]) S4))) Q := p3
                  unfold gd at p4
                  split at p4
                  · rename_i hz
                    exact ⟨av, hD4, by omega, μ4, S4, acc ++ [y], av ++ [v], (x12.trans (x3.trans x4)).other hD, rp4.other hn4 hD4, hn4, upd_same, (RDs.append ra4 (.cons rd4 .nil)).other hD4, p4⟩
                  · exact p4.elim
      · exact p'.elim
theorem e_lc {g : TG} {t : Tg} (hc : X.calm = true) (hN : X.N.Nodup) (hi : PI X tg iter (tI J X.K E mi)) (ok : BlkOk X.N X.env.scope scope own) (hk : GOk J X.K g (own.map (·.2)) t)
    (hg : ∀ (s : Shared) (H : Hp) (C : Addr) (cl : List (Str × Addr)) (fp : List Addr), PG (X.blk s H scope (compEnvC scope cl C X.env) fp) tg g) (ht : ∀ (s : Shared) (H : Hp) (C : Addr) (cl : List (Str × Addr)) (fp : List Addr), PTs (X.blk s H scope (compEnvC scope cl C X.env) fp) ifs (tT J X.K noX mq))
    (he : ∀ (s : Shared) (H : Hp) (C : Addr) (cl : List (Str × Addr)) (fp : List Addr), PE (X.blk s H scope (compEnvC scope cl C X.env) fp) elt (tM J X.K noX me)) (hs : ∀ x, foldedSetIterable iter X.env x = pure x := by intro _; rfl) :
    PE X (.ListComp elt [⟨tg, iter, ifs, 0⟩] scope pos) (tM J X.K E (eLc mi t mq me (own.map (·.2)))) :=
  PE.imp (pe_lc hc hN hi ok hg ht he hs) fun σ H Q h => lc_of hk h
theorem s_setLc {g : TG} {t : Tg} {i : Nat} {y : Str} {py spos : Pos} (hc : X.calm = true) (hN : X.N.Nodup) (hy : X.N[i]? = some y) (hyl : X.env.scope.names.lookup y = some .local)
    (hsw : swapsWith (.ListComp elt [⟨tg, iter, ifs, 0⟩] scope pos) (some (.Name y py)) spos.line X.env = pure true) (hi : PI X tg iter (tI J X.K E mi)) (ok : BlkOk X.N X.env.scope scope own) (hk : GOk J X.K g (own.map (·.2)) t)
    (hg : ∀ (s : Shared) (H : Hp) (C : Addr) (cl : List (Str × Addr)) (fp : List Addr), PG (X.blk s H scope (compEnvC scope cl C X.env) fp) tg g) (ht : ∀ (s : Shared) (H : Hp) (C : Addr) (cl : List (Str × Addr)) (fp : List Addr), PTs (X.blk s H scope (compEnvC scope cl C X.env) fp) ifs (tT J X.K noX mq))
    (he : ∀ (s : Shared) (H : Hp) (C : Addr) (cl : List (Str × Addr)) (fp : List Addr), PE (X.blk s H scope (compEnvC scope cl C X.env) fp) elt (tM J X.K noX me)) (hs : ∀ x, foldedSetIterable iter X.env x = pure x := by intro _; rfl) :
    PS X (.Assign [.Name y py] (.ListComp elt [⟨tg, iter, ifs, 0⟩] scope pos) spos) (tS J X.K E (sAsg (eLc mi t mq me (own.map (·.2))) (tgN i))) :=
  PS.imp (ps_setLc hc hN hy hyl hsw hi ok hg ht he hs) fun De σ H ⟨μ, S, ρ, rp, re, p⟩ => by
    refine lc_of hk ⟨μ, S, ρ, rp, re, Post.mono (PostS.step p) ?_⟩
    rintro v H1 ⟨μ1, S1, d, x1, rp1, rd1, p1⟩
    exact p1 μ1 H1 _ .refl rp1 ((re.mono x1).set rd1)
end
end SH
set_option Elab.async false
set_option linter.all false
set_option maxRecDepth 100000
set_option maxHeartbeats 4000000
namespace SH
open PySem PySem.Spec L2
open Classical
section
variable {J : Ip} {K : PySem.W.Frag} {H : Hp} {μ : List Addr} {S : Store}
theorem Ext.table {P : Addr} {ps more : Array Value} (rp : Rp J K H μ S) (h : H P = some (.tbl ps)) : Ext H μ (upd H P (.tbl (ps ++ more))) μ := by
  refine ⟨⟨[], by simp⟩, fun _ m => .inl m, fun b u e i => ?_, fun b u e n => ?_⟩
  · rw [upd_ne]
    · exact e
    · rintro rfl; rw [h] at e; cases e; cases i
  · by_cases hb : b = P
    · subst hb
      rw [h] at e; cases e
      exact .inr ⟨ps, more, rfl, upd_same⟩
    · exact .inl (by rw [upd_ne hb]; exact e)
theorem Rp.table {P : Addr} {ps more : Array Value} (rp : Rp J K H μ S) (h : H P = some (.tbl ps)) (t : TriplesOk (ps ++ more).toList) (tk : J.tok P (ps ++ more) (upd H P (.tbl (ps ++ more)))) : Rp J K (upd H P (.tbl (ps ++ more))) μ S := by
  refine ⟨rp.len, rp.nd, fun l b ob e1 e2 => (rp.obj l b ob e1 e2).stay (Ext.table rp h) ?_, fun P' hP' => ?_⟩
  · rw [upd_ne]
    rintro rfl
    obtain ⟨u, e, _, hn⟩ := rp.at (List.mem_of_getElem? e1)
    rw [h] at e; cases e
    exact hn ps rfl
  · by_cases hb : P' = P
    · subst hb; exact ⟨_, upd_same, t, tk⟩
    · obtain ⟨ps', e', t', k'⟩ := rp.tab P' hP'
      exact ⟨ps', by rw [upd_ne hb]; exact e', t', J.tmono (Ext.table rp h).imm k'⟩
end
noncomputable def allL (k : Bool) (s : Src) (t : Tg) (q : Env → M Bool) (el : Env → M D) (ρ0 : Env) : List D → M D
  | [] => fun S => if s.ok S then .ok (.bl k) S else .bad
  | d :: ds => fun S => if s.ok S then (match t d ρ0 with
    | some ρ1 => (nE (q ρ1 S)).bind fun c S1 => if c = true then (nE (el ρ1 S1)).bind fun y S2 => (asB y S2).bind fun b S3 => if b = k then allL k s t q el ρ0 ds S3 else .ok (.bl (!k)) S3 else allL k s t q el ρ0 ds S1
    | none => .bad) else .bad
noncomputable def eAllG (k : Bool) (m : Env → M Src) (t : Tg) (q : Env → M Bool) (el : Env → M D) (vs : List Nat) : Env → M D := fun ρ S => (m ρ S).bind fun s S1 => allL k s t q el (wipeE ρ vs) s.items S1
noncomputable def eTupG (m : Env → M Src) (t : Tg) (q : Env → M Bool) (el : Env → M D) (vs : List Nat) : Env → M D := fun ρ S => (m ρ S).bind fun s S1 => (lcL s t q el (wipeE ρ vs) s.items [] S1).bind fun acc S2 => .ok (.tup acc) S2
section
variable {J : Ip} {E : XE} {X : Cx} {elt tg iter : Expr} {ifs : List Expr} {pos : Pos} {me : Env → M D} {mq : Env → M Bool} {mi : Env → M Src} {scope : Scope} {own : List (Str × Nat)}
theorem allG_of {k : Bool} {g : TG} {vs : List Nat} {t : Tg} {P : Addr} (hP : P ∈ J.tabs) (hfp : J.free P) (hk : GOk J X.K g vs t) {σ : L2.St} {H : Hp} {Q : VK} (h : tM J X.K E (eAllG k mi t mq me vs) σ H Q) : SG.tAllG (tI J X.K E mi) g (tT J X.K noX mq) (tM J X.K noX me) vs P k σ H Q := by
  obtain ⟨μ, S, ρ, rp, re, p⟩ := h
  refine ⟨μ, S, ρ, rp, re, ?_⟩
  unfold eAllG at p
  cases h : mi ρ S with
  | exc c S1 => rw [h] at p; exact p
  | bad => rw [h] at p; exact p
  | ok s S1 =>
    rw [h] at p
    have p : Post J X.K E H μ (allL k s t mq me (wipeE ρ vs) s.items S1) Q := p
    intro μ1 H1 Jt x1 rp1 sr
    have p1 := Post.later x1 p
    obtain ⟨ps, hp, htr, _⟩ := rp1.tab P hP
    refine ⟨ps, hp, htr, fun more ht => ?_⟩
    refine ⟨fun i n H' => n = s.items.length - i ∧ i ≤ s.items.length ∧ ∃ μ' S', Ext H1 μ1 H' μ' ∧ Rp J X.K H' μ' S' ∧ Post J X.K E H1 μ1 (allL k s t mq me (wipeE ρ vs) (s.items.drop i) S') Q, fun H' => Q (.bl k) H', fun b H' => Q (.bl b) H',
      ⟨s.items.length, by simp, Nat.zero_le _, μ1, S1, Ext.table rp1 hp, rp1.table hp ht (J.tfree hfp _ _), p1⟩, ?_, fun _ z => z, fun _ _ z => z⟩
    rintro i n H' ⟨rfl, hil, μ', S', x', rp', p'⟩
    cases hd : s.items[i]? with
    | none =>
      have hle : s.items.length ≤ i := List.getElem?_eq_none_iff.mp hd
      rw [List.drop_of_length_le hle] at p'
      unfold allL at p'
      split at p'
      · rename_i hok
        exact .inl ⟨(sr H' μ' S' i x'.imm x'.pre rp' hok).2 hle, p' μ' H' _ x' rp' (.bl k)⟩
      · exact p'.elim
    | some d =>
      rw [drop_cons hd] at p'
      have hlt : i < s.items.length := (List.getElem?_eq_some_iff.mp hd).1
      unfold allL at p'
      split at p'
      · rename_i hok
        obtain ⟨go, yl⟩ := (sr H' μ' S' i x'.imm x'.pre rp' hok).1 d hd
        refine .inr ⟨go, fun H2 => ∃ μ2 S2, Ext H1 μ1 H2 μ2 ∧ Rp J X.K H2 μ2 S2 ∧ Post J X.K E H1 μ1 (allL k s t mq me (wipeE ρ vs) (s.items.drop (i + 1)) S2) Q, fun H2 q => ⟨s.items.length - (i + 1), by omega, rfl, hlt, q⟩, fun x H2 y => ?_⟩
        obtain ⟨μ2, x2, rp2, rd2⟩ := yl x H2 y
        have x12 := x'.trans x2
        cases ht : t d (wipeE ρ vs) with
        | none => rw [ht] at p'; exact p'.elim
        | some ρ1 =>
          rw [ht] at p'
          refine hk x _ H2 _ μ2 (wipeE ρ vs) ρ1 d ((EnvR.wipe (re.mono x1) vs).mono x12) rd2 ht fun σ3 re3 hw3 => ⟨by rw [hw3]; exact wipe_wipe _ _, μ2, S', ρ1, rp2, re3, ?_⟩
          simp only at p'
          cases hq : mq ρ1 S' with
          | exc c S3 => rw [hq] at p'; exact False.elim p'
          | bad => rw [hq] at p'; exact False.elim p'
          | ok c S3 =>
            rw [hq] at p'
            intro μ3 H3 x3 rp3
            cases c with
            | false => exact ⟨μ3, S3, x12.trans x3, rp3, p'⟩
            | true =>
              refine ⟨μ3, S3, ρ1, rp3, re3.mono x3, ?_⟩
              have p3 : Post J X.K E H1 μ1 ((nE (me ρ1 S3)).bind fun y S2 => (asB y S2).bind fun b S3 => if b = k then allL k s t mq me (wipeE ρ vs) (s.items.drop (i + 1)) S3 else .ok (.bl (!k)) S3) Q := p'
              cases he : me ρ1 S3 with
              | exc c S4 => rw [he] at p3; exact False.elim p3
              | bad => rw [he] at p3; exact False.elim p3
              | ok y S4 =>
                rw [he] at p3
                intro μ4 H4 v x4 rp4 rd4
                have x14 := x12.trans (x3.trans x4)
                have p4 : Post J X.K E H1 μ1 ((asB y S4).bind fun b S3 => if b = k then allL k s t mq me (wipeE ρ vs) (s.items.drop (i + 1)) S3 else .ok (.bl (!k)) S3) Q := p3
                unfold asB at p4
                split at p4
                · rename_i b
                  cases rd4
                  have p5 : Post J X.K E H1 μ1 (if b = k then allL k s t mq me (wipeE ρ vs) (s.items.drop (i + 1)) S4 else .ok (.bl (!k)) S4) Q := p4
                  refine ⟨b, rfl, ?_⟩
                  by_cases hb : b = k
                  · rw [if_pos hb] at p5 ⊢
                    exact ⟨s.items.length - (i + 1), by omega, rfl, hlt, μ4, S4, x14, rp4, p5⟩
                  · rw [if_neg hb] at p5 ⊢
                    exact p5 μ4 H4 _ x14 rp4 (.bl _)
                · exact False.elim p4
      · exact p'.elim
end
end SH
set_option Elab.async false
set_option linter.all false
set_option maxRecDepth 100000
set_option maxHeartbeats 4000000
namespace SH
open PySem PySem.Spec L2
open Classical
mutual
def Bel (n : Nat) : D → Prop
  | .tup xs => Bels n xs
  | .con xs => Bels n xs
  | .loc l => l < n
  | .non => True | .bl _ => True | .int _ => True | .str _ => True | .ext _ => True | .ty _ => True
def Bels (n : Nat) : List D → Prop
  | [] => True
  | x :: xs => Bel n x ∧ Bels n xs
end
def OBel (n : Nat) : Ob → Prop
  | .lst xs => Bels n xs
  | .dct kvs => Bels n (kvs.map (·.2))
  | .dtt kvs => Bels n (kvs.map (·.2))
  | .ins fs => Bels n (fs.map (·.2))
def Clo (n : Nat) (S : Store) : Prop := ∀ o ∈ S, OBel n o
section
variable {J : Ip} {K : PySem.W.Frag} {H : Hp} {μ μ' : List Addr}
mutual
theorem RD.bel : ∀ {d : D} {v : V}, RD J K H μ d v → Bel μ.length d
  | _, _, .non => by simp [Bel]
  | _, _, .bl b => by simp [Bel]
  | _, _, .int i => by simp [Bel]
  | _, _, .str s => by simp [Bel]
  | _, _, .tup h r => by unfold Bel; exact RDs.bel r
  | _, _, .con h r => by unfold Bel; exact RDs.bel r
  | _, _, .loc h => by unfold Bel; exact (List.getElem?_eq_some_iff.mp h).1
  | _, _, .ext h => by simp [Bel]
  | _, _, .ty n => by simp [Bel]
theorem RDs.bel : ∀ {ds : List D} {vs : List V}, RDs J K H μ ds vs → Bels μ.length ds
  | _, _, .nil => by simp [Bels]
  | _, _, .cons h r => by unfold Bels; exact ⟨RD.bel h, RDs.bel r⟩
end
mutual
theorem RD.cut {n : Nat} (hm : ∀ l, l < n → μ'[l]? = μ[l]?) : ∀ {d : D} {v : V}, RD J K H μ d v → Bel n d → RD J K H μ' d v
  | _, _, .non, _ => .non
  | _, _, .bl b, _ => .bl b
  | _, _, .int i, _ => .int i
  | _, _, .str s, _ => .str s
  | _, _, .tup h r, b => .tup h (RDs.cut hm r (by unfold Bel at b; exact b))
  | _, _, .con h r, b => .con h (RDs.cut hm r (by unfold Bel at b; exact b))
  | _, _, .loc h, b => .loc (by unfold Bel at b; rw [hm _ b]; exact h)
  | _, _, .ext h, _ => .ext h
  | _, _, .ty n, _ => .ty n
theorem RDs.cut {n : Nat} (hm : ∀ l, l < n → μ'[l]? = μ[l]?) : ∀ {ds : List D} {vs : List V}, RDs J K H μ ds vs → Bels n ds → RDs J K H μ' ds vs
  | _, _, .nil, _ => .nil
  | _, _, .cons h r, b => by unfold Bels at b; exact .cons (RD.cut hm h b.1) (RDs.cut hm r b.2)
end
theorem obr_cut {n : Nat} {a : Addr} {o : Ob} (hm : ∀ l, l < n → μ'[l]? = μ[l]?) (x : ObR J K H μ a o) (b : OBel n o) : ObR J K H μ' a o := by
  cases o with
  | lst xs => obtain ⟨vs, h, r⟩ := x; exact ⟨vs, h, r.cut hm b⟩
  | dct kvs => obtain ⟨vs, h, k, r⟩ := x; exact ⟨vs, h, k, r.cut hm b⟩
  | dtt kvs => obtain ⟨vs, h, k, r⟩ := x; exact ⟨vs, h, k, r.cut hm b⟩
  | ins fs => obtain ⟨vs, h, k, r⟩ := x; exact ⟨vs, h, k, r.cut hm b⟩
end
inductive Abs (n : Nat) : R D → R D → Prop where
  | bad {r : R D} : Abs n r .bad
  | refl {r : R D} : Abs n r r
  | drop {d : D} {S S' : Store} (h1 : S'.take n = S) (hl : n ≤ S'.length) (h2 : Clo n S) (h3 : Bel n d) : Abs n (.ok d S') (.ok d S)
  | one {l : Nat} {S S' : Store} {xs : List D} (h0 : n ≤ l) (h1 : S'.take n = S) (h2 : S'[l]? = some (.lst xs)) (h3 : Clo n S) (h4 : Bels n xs) : Abs n (.ok (.loc l) S') (.ok (.loc n) (S ++ [.lst xs]))
theorem Post.abs {J : Ip} {K : PySem.W.Frag} {E : XE} {H : Hp} {μ : List Addr} {S₀ : Store} {r r' : R D} {Q : VK} (rp : Rp J K H μ S₀) (a : Abs S₀.length r r') (p : Post J K E H μ r' Q) : Post J K E H μ r Q := by
  cases a with
  | bad => exact p.elim
  | refl => exact p
  | @drop d S S' h1 hl h2 h3 =>
    intro μ' H' v x rp' rd
    obtain ⟨rr, hr⟩ := x.pre
    have hlen : μ.length = S₀.length := rp.len
    have hm : ∀ l, l < S₀.length → μ[l]? = μ'[l]? := fun l hl => by rw [hr, List.getElem?_append_left (by omega)]
    refine p μ H' v ⟨⟨[], by simp⟩, fun _ m => .inl m, x.imm, x.keep⟩ ⟨?_, rp.nd, fun l b ob e1 e2 => ?_, rp'.tab⟩ (rd.cut hm h3)
    · rw [← h1, List.length_take]; omega
    · have hl' : l < S₀.length := by rw [← hlen]; exact (List.getElem?_eq_some_iff.mp e1).1
      have e3 : S'[l]? = some ob := by rw [← h1, List.getElem?_take_of_lt hl'] at e2; exact e2
      exact obr_cut hm (rp'.obj l b ob (by rw [← hm l hl']; exact e1) e3) (h2 ob (List.mem_of_getElem? e2))
  | @one l S S' xs h0 h1 h2 h3 h4 =>
    intro μ' H' v x rp' rd
    obtain ⟨rr, hr⟩ := x.pre
    have hlen : μ.length = S₀.length := rp.len
    have hl : l < S'.length := (List.getElem?_eq_some_iff.mp h2).1
    cases rd with
    | @loc _ a ha =>
    have hna : a ∉ μ := fun m => by
      obtain ⟨k, hk, e⟩ := List.getElem_of_mem m
      have e1 : μ'[k]? = some a := by rw [hr, List.getElem?_append_left hk, List.getElem?_eq_getElem hk, e]
      have := nd_ix rp'.nd e1 ha
      omega
    have hHa : H a = none := by
      rcases x.new a (List.mem_of_getElem? ha) with z | z
      · exact absurd z hna
      · exact z
    have hm : ∀ l, l < S₀.length → (μ ++ [a])[l]? = μ'[l]? := fun l hl => by rw [hr, List.getElem?_append_left (by omega), List.getElem?_append_left (by omega)]
    have hS : S.length = S₀.length := by rw [← h1, List.length_take]; omega
    refine p (μ ++ [a]) H' _ ⟨⟨[a], rfl⟩, fun b hb => ?_, x.imm, x.keep⟩ ⟨by rw [List.length_append, List.length_append, hS, hlen]; rfl, ?_, fun k b ob e1 e2 => ?_, rp'.tab⟩ (.loc ?_)
    · rcases List.mem_append.mp hb with h | h
      · exact .inl h
      · rw [List.mem_singleton.mp h]; exact .inr hHa
    · refine List.nodup_append.mpr ⟨rp.nd, by simp, fun x hx b hb => ?_⟩
      rw [List.mem_singleton.mp hb]
      rintro rfl
      exact hna hx
    · by_cases hk : k < S₀.length
      · have e3 : S'[k]? = some ob := by
          rw [List.getElem?_append_left (by omega), ← h1, List.getElem?_take_of_lt hk] at e2; exact e2
        have hob : ob ∈ S := by rw [List.getElem?_append_left (by omega)] at e2; exact List.mem_of_getElem? e2
        exact obr_cut hm (rp'.obj k b ob (by rw [← hm k hk]; exact e1) e3) (h3 ob hob)
      · have hk' : k = S₀.length := by
          have := (List.getElem?_eq_some_iff.mp e2).1
          rw [List.length_append] at this
          simp at this
          omega
        subst hk'
        rw [List.getElem?_append_right (by omega), hlen] at e1
        rw [List.getElem?_append_right (by omega), hS] at e2
        simp at e1 e2
        subst e1 e2
        exact obr_cut (n := S₀.length) hm (rp'.obj l _ _ ha h2) h4
    · rw [List.getElem?_append_right (by omega), hlen]
      simp
def startE (n : Nat) (ds : List D) : Env := ds.map some ++ List.replicate (n - ds.length) none
def runF (n : Nat) (ms : Env → M Fl) : List D → M D := fun ds S => (ms (startE n ds) S).bind fun f S1 => match f with
  | .nx _ => .ok .non S1
  | .rt d => .ok d S1
  | _ => .bad
def spM (J : Ip) (K : PySem.W.Frag) (n : Nat) (fm : List D → M D) : Sp := fun vs H Q _ => vs.length = n ∧ ∃ μ S ds, Rp J K H μ S ∧ RDs J K H μ ds vs ∧ Post J K noX H μ (fm ds S) Q
structure FunC (K : PySem.W.Frag) (x qual : Str) (st : Stmt) (f : Addr) (fd : FuncData) (c : Addr) : Prop where
  ex : ∃ (oc : Value) (od : Option Addr) (kV doc pm : Value) (an : Option Addr) (ct : Value) (osl : Array (Option Value)),
    fd = PySem.W.fnOf x qual (defArgs st) (defBody st) (defScope st) .none kV doc pm an (.ref c) ct ∧ K.lookup f = some ⟨oc, od, .func fd, osl⟩ ∧ PySem.W.codeIn K (.ref c) qual = true
  kp : PySem.W.keepIn K (.ref f) = true
section
variable {J : Ip} {P : Program} {w : World} {K : PySem.W.Frag} {mg : Str → Option Value} {base : Heap}
theorem start_env {H : Hp} {μ : List Addr} {N : List Str} {ds : List D} {vs : List V} (r : RDs J K H μ ds vs) : EnvR J K H μ (startE N.length ds) (start N vs) := by
  have hl := r.length
  refine ⟨by unfold startE L2.start; simp [hl], fun i d e => ?_⟩
  unfold startE at e
  by_cases hi : i < ds.length
  · rw [List.getElem?_append_left (by simpa using hi), List.getElem?_map] at e
    cases h : ds[i]? with
    | none => rw [h] at e; cases e
    | some d' =>
      rw [h] at e; cases e
      obtain ⟨v, h1, h2⟩ := r.get h
      refine ⟨v, ?_, h2⟩
      unfold L2.start
      rw [List.getElem?_append_left (by simp; omega), List.getElem?_map, h1]
      rfl
  · rw [List.getElem?_append_right (by simpa using hi), List.getElem?_replicate] at e
    split at e <;> cases e
end
section
variable {J : Ip} {X : Cx} {k : Nat} {f : Addr} {fd : FuncData} {ps : List Str} {fm : List D → M D} {x : Str} {p cpos : Pos} {e : Expr} {es : List Expr} {as : Env → M (List D)}
theorem e_call (F : FnOk X.prog X.w X.K X.mg X.base CX0 k f fd ps (spM J X.K ps.length fm)) (hr : Room k X.A) (hg : Gl X x) (hm : X.mg x = some (.ref f)) (hk : PySem.W.keepIn X.K (.ref f) = true) (hb : Binds X.K fd ps [])
    (hn : ∀ ρ S ds S1, as ρ S = .ok ds S1 → ds.length = ps.length) (ha : PA X (e :: es) (tA J X.K noX as)) (hdb : (x == ("__debug__" : Str)) = false := by decide) (he : starEach (e :: es) X.env = (false, eval e X.env) :: starEach es X.env := by rfl) (hpl : (backTo cpos (starEach es X.env)).any (·.1) = false := by rfl) :
    PE X (.Call (.Name x p) (e :: es) [] cpos) (tM J X.K noX (eA fm as)) := by
  refine PE.imp (pe_call F hr hg hm hk hb .nil pass0 ha hdb he hpl) fun σ H Q h => ?_
  obtain ⟨μ, S, ρ, rp, re, p⟩ := h
  refine ⟨μ, S, ρ, rp, re, ?_⟩
  have q := Post.stepA p
  cases h : as ρ S with
  | exc c S1 => rw [h] at q; exact q
  | bad => rw [h] at q; exact q
  | ok ds S1 =>
    rw [h] at q
    intro μ1 H1 vs x1 rp1 rds
    have p1 := Post.later x1 p
    unfold eA at p1
    rw [h] at p1
    rw [List.append_nil]
    exact ⟨by rw [← rds.length]; exact hn _ _ _ _ h, μ1, S1, ds, rp1, rds, p1⟩
theorem al_nil : ∀ (ρ : Env) S ds S1, aN ρ S = .ok ds S1 → ds.length = 0 := fun ρ S ds S1 h => by cases h; rfl
theorem al_cons {ma : Env → M D} {n : Nat} (h : ∀ (ρ : Env) S ds S1, as ρ S = .ok ds S1 → ds.length = n) : ∀ (ρ : Env) S ds S1, aC ma as ρ S = .ok ds S1 → ds.length = n + 1 := fun ρ S ds S1 e => by
  obtain ⟨a, S2, h1, h2⟩ := bind_ok (show (ma ρ S).bind _ = _ from e)
  obtain ⟨b, S3, h3, h4⟩ := bind_ok h2
  cases h4
  rw [List.length_cons, h _ _ _ _ h3]
end
end SH
set_option Elab.async false
set_option linter.all false
set_option maxRecDepth 100000
set_option maxHeartbeats 4000000
namespace SH
open PySem PySem.Spec L2
open Classical
def eM (f : D → List D → M D) (o : Env → M D) (as : Env → M (List D)) : Env → M D := fun ρ S => (o ρ S).bind fun x S1 => match lItems S1 x with
  | some _ => (as ρ S1).bind fun ds S2 => f x ds S2
  | none => .bad
def appD (x : D) (ds : List D) : M D := fun S => match x, ds with
  | .loc l, [y] => match S[l]? with
    | some (.lst xs) => gd (xs.length < sizeLine) (.ok .non (S.set l (.lst (xs ++ [y]))))
    | _ => .bad
  | _, _ => .bad
def popD (x : D) (ds : List D) : M D := fun S => match x, ds with
  | .loc l, [.int i] => match S[l]? with
    | some (.lst xs) => if 0 ≤ i ∧ i < 2 ^ 62 then (match xs[i.toNat]? with
      | some y => .ok y (S.set l (.lst (xs.eraseIdx i.toNat)))
      | none => .bad) else .bad
    | _ => .bad
  | _, _ => .bad
def setD (o i v : D) : M Unit := fun S => match o, i with
  | .loc l, .int k => match S[l]? with
    | some (.lst xs) => match ixN xs.length k with
      | some j => .ok () (S.set l (.lst (xs.set j v)))
      | none => .bad
    | _ => .bad
  | _, _ => .bad
def sSub (a o i : Env → M D) : Env → M Fl := fun ρ S => (a ρ S).bind fun v S1 => (o ρ S1).bind fun x S2 => (i ρ S2).bind fun y S3 => (setD x y v S3).bind fun _ S4 => .ok (.nx ρ) S4
def sAugS (f : D → D → M D) (o i a : Env → M D) : Env → M Fl := fun ρ S => (o ρ S).bind fun x S1 => (i ρ S1).bind fun y S2 => (ixD x y S2).bind fun old S3 => (a ρ S3).bind fun v S4 => (f old v S4).bind fun new S5 => (setD x y new S5).bind fun _ S6 => .ok (.nx ρ) S6
def parK (i j : Nat) (ρ : Env) (ds : List D) : M Fl := fun S1 => match ds with
  | [a, b] => .ok (.nx ((ρ.set i (some a)).set j (some b))) S1
  | _ => .bad
def sPar (i j : Nat) (as : Env → M (List D)) : Env → M Fl := fun ρ S => (as ρ S).bind fun ds S1 => parK i j ρ ds S1
section
variable {J : Ip} {E : XE} {X : Cx} {e o i : Expr} {es : List Expr} {pos p apos cpos tpos : Pos} {ma mo mi : Env → M D} {as : Env → M (List D)} {id : String} {name : Str}
theorem e_m {f : D → List D → M D} {r : V → List V → Hp → VK → Prop} (slot : Slot "list" name id) (hty : typeOf (.builtin id) = pure (.type "method_descriptor")) (hm : MtR X id r)
    (hr : ∀ H μ S x ds v vs Q, Rp J X.K H μ S → RD J X.K H μ x v → RDs J X.K H μ ds vs → Post J X.K E H μ (f x ds S) Q → r v vs H Q) (ho : PE X o (tM J X.K E mo)) (ha : PA X (e :: es) (tA J X.K E as))
    (hbase : attributeBase o name X.env (eval o X.env) = eval o X.env := by rfl)
    (hfew : ((backTo cpos (starEach (e :: es) X.env)).all (fun x => !x.1) && (backToKw cpos (keywordEach [] X.env)).all (fun x => x.1.isSome)
      && decide ((e :: es).length + ([] : List Keyword).length + (if ([] : List Keyword).isEmpty then 0 else 1) < 30)) = true := by rfl)
    (hline : (apos.endLine == cpos.line) = true := by rfl) (hs : starEach (e :: es) X.env = (false, eval e X.env) :: starEach es X.env := by rfl) (hplain : (backTo cpos (starEach es X.env)).any (·.1) = false := by rfl) :
    PE X (.Call (.Attribute o name apos) (e :: es) [] cpos) (tM J X.K E (eM f mo as)) := by
  refine PE.imp (pe_bm PySem.F.plainAttrs_list slot hty hm ho ha hbase hfew hline hs hplain) fun σ H Q h => ?_
  obtain ⟨μ, S, ρ, rp, re, p⟩ := h
  refine ⟨μ, S, ρ, rp, re, Post.mono (Post.step p) ?_⟩
  rintro v H1 ⟨μ1, S1, d, x1, rp1, rd1, p1⟩
  split at p1
  · rename_i xs hl
    obtain ⟨q, ws, rfl, hq, rs⟩ := lItems_sq rp1 rd1 hl
    refine ⟨.inl ⟨rfl, ws, hq⟩, μ1, S1, ρ, rp1, re.mono x1, ?_⟩
    have p2 := Post.stepA p1
    cases h : as ρ S1 with
    | exc c S2 => rw [h] at p2; exact p2
    | bad => rw [h] at p2; exact p2
    | ok ds S2 =>
      rw [h] at p1
      intro μ2 H2 vs x2 rp2 rds2
      exact hr H2 μ2 S2 d ds _ vs Q rp2 (rd1.mono x2) rds2 (Post.later x2 p1)
  · exact p1.elim
theorem app_r {H : Hp} {μ : List Addr} {S : Store} {x : D} {ds : List D} {v : V} {vs : List V} {Q : VK} (rp : Rp J X.K H μ S) (rx : RD J X.K H μ x v) (rds : RDs J X.K H μ ds vs) (p : Post J X.K E H μ (appD x ds S) Q) : rAppend v vs H Q := by
  unfold appD at p
  split at p
  · cases rx with
    | loc hl =>
    obtain ⟨w, rfl, ry⟩ := rds1 rds
    split at p
    · rename_i hs
      unfold gd at p
      split at p
      · obtain ⟨us, h1, r⟩ := rp.lst hl hs
        have hle := r.length
        exact ⟨_, _, _, rfl, rfl, h1, by omega, p μ _ _ (Ext.write rp hl) (rp.write hl ⟨_, upd_same, (RDs.append r (.cons ry .nil)).mono (Ext.write rp hl)⟩) .non⟩
      · exact p.elim
    · exact p.elim
  · exact p.elim
theorem set_r {H : Hp} {μ : List Addr} {S : Store} {x y d : D} {v u w : V} {Q : Hp → Prop} (rp : Rp J X.K H μ S) (rx : RD J X.K H μ x v) (ry : RD J X.K H μ y u) (rd : RD J X.K H μ d w)
    (p : ∀ S', setD x y d S = .ok () S' → ∀ H', Ext H μ H' μ → Rp J X.K H' μ S' → Q H') (hb : ∃ S', setD x y d S = .ok () S') : rSetL v u w H Q := by
  obtain ⟨S', e⟩ := hb
  have p := p S' e
  unfold setD at e
  split at e
  · cases rx with
    | loc hl =>
    cases ry
    split at e
    · rename_i hs
      split at e
      · rename_i j hj
        cases e
        obtain ⟨us, h1, r⟩ := rp.lst hl hs
        rw [r.length] at hj
        exact ⟨_, _, _, j, rfl, rfl, h1, hj, p _ (Ext.write rp hl) (rp.write hl ⟨_, upd_same, (r.set rd j).mono (Ext.write rp hl)⟩)⟩
      · cases e
    · cases e
  · cases e
theorem setD_cases (x y d : D) (S : Store) : (∃ S', setD x y d S = .ok () S') ∨ setD x y d S = .bad := by
  unfold setD
  split
  · split
    · split
      · exact .inl ⟨_, rfl⟩
      · exact .inr rfl
    · exact .inr rfl
  · exact .inr rfl
theorem s_sub (he : PE X e (tM J X.K E ma)) (ho : PE X o (tM J X.K E mo)) (hi : PE X i (tM J X.K E mi)) (hg : PG X (.Subscript o i tpos) (gSub (tM J X.K E mo) (tM J X.K E mi) rSetL) := by exact pg_sub (by assumption) (by assumption) set_list)
    (hs : swapsWithSole [.Subscript o i tpos] e pos.line X.env = pure false := by rfl) (hw : swappedStores [.Subscript o i tpos] e X.env = pure none := by rfl)
    (h1 : (assignEach [.Subscript o i tpos] X.env).map (·.2) = [assign (.Subscript o i tpos) X.env] := by rfl) : PS X (.Assign [.Subscript o i tpos] e pos) (tS J X.K E (sSub ma mo mi)) := by
  refine PS.imp (ps_asg he hg hs hw h1) fun De σ H ⟨μ, S, ρ, rp, re, p⟩ => ?_
  refine ⟨μ, S, ρ, rp, re, Post.mono (PostS.step p) ?_⟩
  rintro v H1 ⟨μ1, S1, d, x1, rp1, rd1, p1⟩
  refine ⟨μ1, S1, ρ, rp1, re.mono x1, Post.mono (PostS.step p1) ?_⟩
  rintro w H2 ⟨μ2, S2, d2, x2, rp2, rd2, p2⟩
  refine ⟨μ2, S2, ρ, rp2, re.mono (x1.trans x2), Post.mono (PostS.step p2) ?_⟩
  rintro u H3 ⟨μ3, S3, d3, x3, rp3, rd3, p3⟩
  rcases setD_cases d2 d3 d S3 with ⟨S4, e4⟩ | e4
  · refine set_r rp3 (rd2.mono x3) rd3 ((rd1.mono x2).mono x3) (fun S' e' H' x' rp' => ?_) ⟨S4, e4⟩
    rw [e4] at e'; cases e'
    rw [e4] at p3
    exact p3 μ3 H' σ x' rp' ((re.mono (x1.trans x2)).mono (x3.trans x'))
  · rw [e4] at p3; exact p3.elim
def rIxN (K : PySem.W.Frag) : V → V → Hp → VK → Prop := fun x y H Q => ∃ p xs i v, x = .ref p ∧ y = .int i ∧ SqL K H p xs ∧ 0 ≤ i ∧ xs[i.toNat]? = some v ∧ Q v H
def ixN' (x y : D) : M D := fun S => match x, y with
  | .loc l, .int i => match S[l]? with
    | some (.lst xs) => if 0 ≤ i then (match xs[i.toNat]? with
      | some d => .ok d S
      | none => .bad) else .bad
    | _ => .bad
  | _, _ => .bad
def addI (x y : D) : M D := fun S => match x, y with
  | .int i, .int j => .ok (.int (i + j)) S
  | _, _ => .bad
def sAug (o i a : Env → M D) : Env → M Fl := fun ρ S => (o ρ S).bind fun x S1 => (i ρ S1).bind fun y S2 => (ixN' x y S2).bind fun old S3 => (a ρ S3).bind fun v S4 => (addI old v S4).bind fun new S5 => (setD x y new S5).bind fun _ S6 => .ok (.nx ρ) S6
end
end SH
set_option Elab.async false
set_option linter.all false
set_option maxRecDepth 100000
set_option maxHeartbeats 4000000
namespace SH
open PySem PySem.Spec L2
open Classical
theorem room_gen {k : Nat} {A B : Around} {elt tg iter : Expr} {ifs : List Expr} {scope : Scope} {pos : Pos} {it : Addr} {genv : PySem.Env} (hr : Room (k + 1) A) (h1 : B.handled = A.handled) (h2 : B.depth ≤ A.depth + 1) (h3 : B.units ≤ A.units + 8) (h4 : B.guards = A.guards) :
    Room k (B.over (SG.gcode elt tg iter ifs scope pos it genv) []) := by
  refine ⟨?_, ?_, ?_, ?_⟩
  · show B.handled = none
    rw [h1]; exact hr.hd
  · have e : (B.over (SG.gcode elt tg iter ifs scope pos it genv) []).depth = B.depth + 1 := rfl
    have := hr.dp
    rw [e]; omega
  · have e : (B.over (SG.gcode elt tg iter ifs scope pos it genv) []).units = B.units + 3 := rfl
    have := hr.un
    rw [e]; omega
  · have e : (B.over (SG.gcode elt tg iter ifs scope pos it genv) []).guards = pushGuards [] (pushGuards [] B.guards) := rfl
    rw [e, h4, hr.gu]; rfl
abbrev A2 (A : Around) : Around := A.in1.in1
abbrev A4 (A : Around) : Around := A.in1.in1.in1.in1
theorem room_all {k : Nat} {A : Around} {elt tg iter : Expr} {ifs : List Expr} {scope : Scope} {pos : Pos} {it : Addr} {genv : PySem.Env} (hr : Room (k + 1) A) : Room k ((A2 A).over (SG.gcode elt tg iter ifs scope pos it genv) []) := room_gen hr rfl (Nat.le_succ _) (by show A.units + 1 + 1 ≤ _; omega) rfl
section
variable {J : Ip} {E : XE} {X : Cx} {elt tg iter : Expr} {ifs : List Expr} {pos p cpos : Pos} {me : Env → M D} {mq : Env → M Bool} {mi : Env → M Src} {scope : Scope} {own : List (Str × Nat)} {g : TG} {t : Tg} {c P : Addr} {k : Nat}
theorem e_all (hc : X.calm = true) (hN : X.N.Nodup) (hr : Room k X.A) (hi : PI X tg iter (tI J X.K E mi)) (ok : BlkOk X.N X.env.scope scope own) (hcell : ∀ y ∈ scope.names, y.2 ≠ .cell)
    (h0 : scope.names.lookup (".0" : Str) = some NameKind.local) (hco : scope.isCoroutine = false) (hcode : X.env.code = .ref c) (hcd : SG.CodeHd X.base c P) (hP : P ∈ J.tabs) (hfp : J.free P) (hbm : SG.Bm X.base X.mg) (hgl : Gl X "all") (hm : X.mg "all" = none)
    (hk : GOk J X.K g (own.map (·.2)) t)
    (hg : ∀ s H cl C code bi fp A', PG (SG.gcx X s H (genEnv scope cl C code bi X.env) fp A') tg g) (ht : ∀ s H cl C code bi fp it, PTs (SG.gcx X s H (genEnv scope cl C code bi X.env) fp ((A2 X.A).over (SG.gcode elt tg iter ifs scope pos it (genEnv scope cl C code bi X.env)) [])) ifs (tT J X.K noX mq))
    (he : ∀ s H cl C code bi fp it, PE (SG.gcx X s H (genEnv scope cl C code bi X.env) fp ((A2 X.A).over (SG.gcode elt tg iter ifs scope pos it (genEnv scope cl C code bi X.env)) [])) elt (tM J X.K noX me)) (hs : ∀ x, genFold iter X.env x = pure x := by intro _; rfl) :
    PE X (.Call (.Name "all" p) [.GeneratorExp elt [⟨tg, iter, ifs, 0⟩] scope pos] [] cpos) (tM J X.K E (eAllG true mi t mq me (own.map (·.2)))) :=
  PE.imp (SG.pe_allG hc hN hr hi ok hcell h0 hco hcode hcd hbm hs hgl hm hg ht he) fun σ H Q h => allG_of hP hfp hk h
end
noncomputable def lc2L (s : Src) (t : Tg) (q : Env → M Bool) (m1 : Env → M Src) (t1 : Tg) (q1 : Env → M Bool) (el : Env → M D) (ρ0 : Env) (vs1 : List Nat) : List D → List D → M (List D)
  | [], acc => fun S => if s.ok S then .ok acc S else .bad
  | d :: ds, acc => fun S => if s.ok S then (match t d ρ0 with
    | some ρ1 => (nE (q ρ1 S)).bind fun k S1 => if k = true then (nE (m1 ρ1 S1)).bind fun s1 S2 => (lcL s1 t1 q1 el (wipeE ρ1 vs1) s1.items acc S2).bind fun acc' S3 => lc2L s t q m1 t1 q1 el ρ0 vs1 ds acc' S3 else lc2L s t q m1 t1 q1 el ρ0 vs1 ds acc S1
    | none => .bad) else .bad
noncomputable def eLc2 (m : Env → M Src) (t : Tg) (q : Env → M Bool) (m1 : Env → M Src) (t1 : Tg) (q1 : Env → M Bool) (el : Env → M D) (vs vs1 : List Nat) : Env → M D := fun ρ S => (m ρ S).bind fun s S1 => lcEnd (lc2L s t q m1 t1 q1 el (wipeE ρ vs) vs1 s.items [] S1)
section
variable {J : Ip} {E : XE} {X : Cx} {elt tg iter tg1 iter1 : Expr} {ifs ifs1 : List Expr} {pos : Pos} {me : Env → M D} {mq mq1 : Env → M Bool} {mi mi1 : Env → M Src} {scope : Scope} {own : List (Str × Nat)}
end
end SH
set_option Elab.async false
set_option linter.all false
set_option maxRecDepth 100000
set_option maxHeartbeats 4000000
namespace SH
open PySem PySem.Spec L2
def H0 (tabs : List (Addr × Addr)) (a : Addr) (o : Option HO) : Hp := fun b => if b ∈ tabs.map (·.2) then some (.tbl #[]) else if b = a then o else none
open Classical in
theorem head_call {P : Program} {w : World} {K : PySem.W.Frag} {mg mb : Str → Option Value} {k : Nat} {fa a : Addr} {fd : FuncData} {x : Str} {sp : Sp} {s₁ : Shared} {vs : List Value} {ns : List Int} {tabs : List (Addr × Addr)}
    (KX : K.In s₁.heap) (hns : s₁.heap.Ns mainGlobals mg) (hb : s₁.heap.Ns builtinsNs mb) (hbb : ∀ x : Str, x ≠ "__name__" → mb x = bootBuiltins x) (hlim : s₁.heap.NoLimit) (hg : s₁.gens = #[])
    (hT : PySem.W.TabsAt tabs s₁.heap) (hK : PySem.W.noTabs K = true) (hBm : SG.Bm s₁.heap mg)
    (ha : s₁.heap.get? a = some { cls := .type "list", data := .seq vs.toArray }) (hi : PyProof.Rows.IntsAre vs ns) (hl : ns.length ≤ sizeLine) (hr : Room k callerA)
    (F : ∀ base : Heap, K.In base → base.Ns mainGlobals mg → SG.Bm base mg → (∀ q ∈ tabs, SG.CodeHd base q.1 q.2) → FnOk P w K mg base CX0 k fa fd [x] sp) (hbind : ∀ (s : Shared) (u : Value), BindsTo s fd ⟨[u], []⟩ [(x, u)])
    (hsp : ∀ H : Hp, (∀ q ∈ tabs, H q.2 = some (.tbl #[])) → SqF K H a (ns.map V.int) → sp [.ref a] H (fun v _ => v = .bl true) fun _ _ _ => False) :
    codeAny (model P w) callerA (.call (.ref fa) ⟨[.ref a], []⟩) (fun r s' => r = .ok (.ret (.bool true)) ∧ OldK s₁.heap s'.heap ∧ s'.os = s₁.os ∧ PyProof.Rows.AllBare s'.gens) s₁ := by
  have rv := vals_ints hi
  have lenV := hi.length
  have tabP : ∀ {b : Addr}, b ∈ tabs.map (·.2) → s₁.heap.get? b = some (PySem.W.tabObj #[]) ∧ isCodeTable s₁.heap b := fun {b} hb => by
    obtain ⟨q, hq, rfl⟩ := List.mem_map.mp hb
    exact ⟨(hT q hq).2, ((hT q hq).1.tab (hT q hq).2).isCodeTable⟩
  have aT : a ∉ tabs.map (·.2) := fun z => by
    have e := (tabP z).1
    rw [ha] at e
    have e2 := congrArg Obj.cls (Option.some.inj e)
    cases e2
  have core : ∀ o : Option HO, (o = none ∨ ∃ u xs, o = some (.frz u (.lst xs))) → SqF K (H0 tabs a o) a (ns.map V.int) → HOk P w (H0 tabs a o) s₁.heap → (o ≠ none → K.lookup a = none) →
      codeAny (model P w) callerA (.call (.ref fa) ⟨[.ref a], []⟩) (fun r s' => r = .ok (.ret (.bool true)) ∧ OldK s₁.heap s'.heap ∧ s'.os = s₁.os ∧ PyProof.Rows.AllBare s'.gens) s₁ := by
    intro o ho hS hok hKa
    have hin : ∀ {b u}, H0 tabs a o b = some u → b ∈ tabs.map (·.2) ∧ u = .tbl #[] ∨ b = a ∧ o = some u := fun {b u} e => by
      by_cases h1 : b ∈ tabs.map (·.2)
      · have e' := (if_pos h1).symm.trans e
        exact .inl ⟨h1, (Option.some.inj e').symm⟩
      · have e' := (if_neg h1).symm.trans e
        by_cases h2 : b = a
        · exact .inr ⟨h2, (if_pos h2).symm.trans e'⟩
        · have e2 := (if_neg h2).symm.trans e'
          cases e2
    have base_of : ∀ {b : Addr} {u : Obj}, s₁.heap.get? b = some u → H0 tabs a o b = none → (hidT s₁.heap (H0 tabs a o)).get? b = some u := fun e n => hidT_get e n
    have noC : ∀ {b : Addr} {u : Obj}, s₁.heap.get? b = some u → u.cls ≠ .none → u.cls ≠ .type "list" ∨ (∀ its n, u.data ≠ .seq its n) → H0 tabs a o b = none := fun {b u} e c1 c2 => by
      cases q : H0 tabs a o b with
      | none => rfl
      | some t =>
        rcases hin q with ⟨h1, _⟩ | ⟨h1, _⟩
        · rw [(tabP h1).1] at e
          cases e
          exact absurd rfl c1
        · subst h1
          rw [ha] at e
          cases e
          rcases c2 with c2 | c2
          · exact absurd rfl c2
          · exact absurd rfl (c2 _ _)
    have noA : ∀ {b : Addr} {u : Obj} {es : Array DictEntry} {ep : Nat}, s₁.heap.get? b = some u → u.data = .dict es ep → H0 tabs a o b = none := fun {b u es ep} e d => by
      cases q : H0 tabs a o b with
      | none => rfl
      | some t =>
        rcases hin q with ⟨h1, _⟩ | ⟨h1, _⟩
        · rw [(tabP h1).1] at e
          cases e
          have d' : Data.fields #[] = Data.dict es ep := d
          cases d'
        · subst h1
          rw [ha] at e; cases e
          have d' : Data.seq vs.toArray _ = Data.dict es ep := d
          cases d'
    have nsK : ∀ {b : Addr} {m : Str → Option Value}, s₁.heap.Ns b m → (hidT s₁.heap (H0 tabs a o)).Ns b m := fun {b m} ⟨u, es, ep, e, d, r⟩ => ⟨u, es, ep, base_of e (noA e d), d, r⟩
    have hKb : K.In (hidT s₁.heap (H0 tabs a o)) := fun b u e => base_of (KX b u e) (by
      cases q : H0 tabs a o b with
      | none => rfl
      | some t =>
        rcases hin q with ⟨h1, _⟩ | ⟨h1, h2⟩
        · have e1 := KX b u e
          rw [(tabP h1).1] at e1
          cases e1
          have h3 := List.all_eq_true.mp hK (b, _) (PySem.W.mem_of_lookupK e)
          exact absurd (show false = true from h3) Bool.false_ne_true
        · subst h1
          rw [hKa (by rw [h2]; exact fun z => by cases z)] at e; cases e)
    have hBb : SG.Bm (hidT s₁.heap (H0 tabs a o)) mg := by
      obtain ⟨bm, u, h1, h2, h3, h4, h5⟩ := hBm
      exact ⟨bm, u, h1, h2, base_of h3 (noC h3 (by rw [h4]; exact fun z => by cases z) (.inl (by rw [h4]; exact fun z => by injection z with z; exact absurd z (by decide)))), h4, h5⟩
    have hCb : ∀ q ∈ tabs, SG.CodeHd (hidT s₁.heap (H0 tabs a o)) q.1 q.2 := fun q hq => by
      obtain ⟨u, vs', file, tf, flags, tg, inF, text, tt, e1, r1, r2, r3⟩ := (hT q hq).1
      exact ⟨u, vs', file, tf, flags, tg, inF, text, tt, base_of e1 (noC e1 (by rw [r1]; exact fun z => by cases z) (.inl (by rw [r1]; exact fun z => by injection z with z; exact absurd z (by decide)))), r1, r2, r3⟩
    have hM : Mod K mg (hidT s₁.heap (H0 tabs a o)) := ⟨hKb, nsK hns, ⟨mb, nsK hb, hbb⟩, let ⟨mc, h1, h2⟩ := hlim; ⟨mc, nsK h1, h2⟩⟩
    have e0 : Env0 P w K mg (hidT s₁.heap (H0 tabs a o)) callerA [] s₁ (H0 tabs a o) := ⟨rfl, hM, fun b u e => of_hidT e, Nat.le_of_eq (hidT_size _ _), trivial, fun b hb => absurd (show b ∈ ([] : List Addr) from hb) (by simp), hok, .of_eq hg⟩
    refine codeAny_mono ((F _ hKb (nsK hns) hBb hCb).run callerA [] s₁ (H0 tabs a o) ⟨[.ref a], []⟩ [.ref a] [.ref a] _ _ hr e0 (hbind s₁ (.ref a)) (.cons rfl .nil) (hsp _ (fun q hq => if_pos (List.mem_map_of_mem hq)) hS)) fun r s' h => ?_
    cases r with
    | error e => exact False.elim h
    | ok fl =>
      cases fl with
      | next => exact False.elim h
      | brk => exact False.elim h
      | cont => exact False.elim h
      | ret u =>
        obtain ⟨v, H', os, bare, un, hok', r', q⟩ := h
        have q' : v = .bl true := q
        subst q'
        obtain rfl : u = Value.bool true := r'
        have all : ∀ b t, s₁.heap.get? b = some t → s'.heap.get? b = some t ∨ isCodeTable s₁.heap b ∧ t = PySem.W.tabObj #[] ∧ ∃ ps, s'.heap.get? b = some (PySem.W.tabObj ps) := fun b t e => by
          cases q : H0 tabs a o b with
          | none => exact .inl (un.keep b t e q (by intro z; exact absurd (show b ∈ ([] : List Addr) from z) (by simp)) (by simp))
          | some z =>
            rcases hin q with ⟨h1, rfl⟩ | ⟨h1, h2⟩
            · obtain ⟨more, z2⟩ := un.tbls b _ q
              have e1 := (tabP h1).1
              rw [e] at e1
              exact .inr ⟨(tabP h1).2, Option.some.inj e1, _, hok' b _ z2⟩
            · rcases ho with rfl | ⟨ob, xs, rfl⟩
              · cases h2
              · cases h2
                have z2 := un.frzs b ob _ q
                obtain ⟨e1, _⟩ := hok b _ q
                obtain ⟨e2, _⟩ := hok' b _ z2
                rw [e] at e1; cases e1
                exact .inl e2
        refine ⟨rfl, ⟨fun b t e => ?_, fun b t e => ?_⟩, os, bare⟩
        · rcases all b t e with z | ⟨ht, rfl, ps, hP⟩
          · exact .inl z
          · exact .inr (.inl ⟨ht, rfl, #[], ps, rfl, by rw [Array.empty_append]; exact hP⟩)
        · rcases all b t e with z | ⟨_, _, ps, hP⟩
          · exact ⟨_, z⟩
          · exact ⟨_, hP⟩
  have hokT : ∀ (o : Option HO), (∀ u, o = some u → u = .frz { cls := .type "list", data := .seq vs.toArray } (.lst (ns.map V.int))) → HOk P w (H0 tabs a o) s₁.heap := fun o ho b u z => by
    by_cases h1 : b ∈ tabs.map (·.2)
    · have e' := (if_pos h1).symm.trans z
      cases e'
      exact (tabP h1).1
    · have e' := (if_neg h1).symm.trans z
      by_cases h2 : b = a
      · have e2 := (if_pos h2).symm.trans e'
        have e3 := ho u e2
        subst e3
        subst h2
        exact ⟨ha, by rw [List.length_map]; exact hl, vs, _, rv, ha⟩
      · have e2 := (if_neg h2).symm.trans e'
        cases e2
  cases hk : K.lookup a with
  | some o =>
    have e := KX a o hk
    rw [ha] at e
    cases e
    exact core none (.inl rfl) (.inr ⟨_, vs.toArray, _, hk, rfl, rfl, rfl, by rw [List.size_toArray, lenV]; exact hl, by simpa using rv⟩) (hokT none fun u z => by cases z) fun z => absurd rfl z
  | none =>
    exact core (some (.frz { cls := .type "list", data := .seq vs.toArray } (.lst (ns.map V.int)))) (.inr ⟨_, _, rfl⟩) (.inl ⟨_, (if_neg aT).trans (if_pos rfl)⟩) (hokT _ fun u z => (Option.some.inj z).symm) fun _ => hk
theorem rd_ints {J : Ip} {K : PySem.W.Frag} {H : Hp} {μ : List Addr} : ∀ ns : List Int, RDs J K H μ (ns.map D.int) (ns.map V.int)
  | [] => .nil
  | i :: r => .cons (.int i) (rd_ints r)
theorem walk_tab {l : PySem.W.OpenLaw} {n k : Nat} {q : Program} {loose : List Str} {XP : (Str → Option Value) → Heap → Prop} {YP : World → Heap → Prop} {d : DefRec} {K : Params → PySem.W.Frag} {fm : World → List D → M D} {J : World → Ip} {x : Str} {tabs : List (Addr × Addr)}
    (hn : l.most = some n) (hn2 : n ≤ sizeLine) (hdf : d.params.defaults = []) (hr : Room k callerA)
    (hY : ∀ (w : World) (h : Heap), YP w h → (K w.params).In h)
    (hT : ∀ (w : World) (s₀ : Shared) (mg mb : Str → Option Value) (h : Heap), PySem.W.Ground q loose [] XP w s₀ mg mb h → (K w.params).In h → PySem.W.TabsAt tabs h)
    (hK : ∀ w : World, PySem.W.noTabs (K w.params) = true) (hJ : ∀ w, (J w).tabs = tabs.map (·.2))
    (F : ∀ (w : World) (mg : Str → Option Value) (fa : Addr) (h : Heap), (K w.params).In h → h.Ns mainGlobals mg → mg d.name = some (.ref fa) →
      ∃ fd : FuncData, (∀ (s : Shared) (u : Value), BindsTo s fd ⟨[u], []⟩ [(x, u)]) ∧
        ∀ base : Heap, (K w.params).In base → base.Ns mainGlobals mg → SG.Bm base mg → (∀ q ∈ tabs, SG.CodeHd base q.1 q.2) → FnOk l.prog w (K w.params) mg base CX0 k fa fd [x] (spM (J w) (K w.params) 1 (fm w)))
    (hf : ∀ (w : World) (ns : List Int), ns.length ≤ n → ∃ S', fm w [.con (ns.map D.int)] [] = .ok (.bl true) S') :
    PySem.W.WalkO q loose XP YP l.row.toRowW d [] (fun f vs => PySem.call f vs) := by
  refine Att.attach_call hn hdf fun w s₀ s₁ mg mb fa o pm cd doc a vs ns G Y ho hd hcd hmg hobj hints hlen hg => ?_
  have KX := hY w _ Y
  obtain ⟨fd, hb, hF⟩ := F w mg fa _ KX G.T.g hmg
  refine head_call KX G.T.g G.T.b G.T.builtins G.T.nolimit hg (hT w s₀ mg mb _ G KX) (hK w) G.T.bmain hobj hints (Nat.le_trans hlen hn2) hr hF hb fun H hH hS => ?_
  refine ⟨rfl, [], [], [.con (ns.map D.int)], ⟨rfl, List.nodup_nil, fun i a' ob e => (by cases e), fun P' hP' => ?_⟩, .cons (.con hS ?_) .nil, ?_⟩
  · rw [hJ] at hP'
    obtain ⟨q', hq', rfl⟩ := List.mem_map.mp hP'
    exact ⟨#[], hH q' hq', by trivial, (J w).tzero⟩
  · exact rd_ints ns
  · obtain ⟨S', e⟩ := hf w ns hlen
    rw [e]
    intro μ' H' v x' rp' rd
    cases rd
    rfl
end SH
set_option Elab.async false
set_option linter.all false
set_option maxRecDepth 100000
set_option maxHeartbeats 4000000
namespace SH
open PySem PySem.Spec L2
open Classical
def enumD : Int → List D → List D
  | _, [] => []
  | z, x :: xs => .tup [.int z, x] :: enumD (z + 1) xs
def iEn (z : Int) (a : Env → M (List D)) : Env → M Src := fun ρ S => (a ρ S).bind fun ds S1 => match ds with
  | [.tup xs] => .ok ⟨enumD z xs, fun _ => True⟩ S1
  | _ => .bad
section
variable {J : Ip} {E : XE} {X : Cx} {e tg iter : Expr} {pos p cp kp kq : Pos} {as : Env → M (List D)}
def sortZ (ns : List Int) : List Int := ns.mergeSort fun a b => decide (a ≤ b)
def sortD : List D → M D := fun ds S => match ds with
  | [.tup xs] => match intsO xs with
    | some ns => gd (ns.length < 64) (.ok (.loc S.length) (S ++ [.lst ((sortZ ns).map D.int)]))
    | none => .bad
  | _ => .bad
def lrD : List D → M D := fun ds S => match ds with
  | [.int j] => gd (0 ≤ j ∧ j ≤ 1000) (.ok (.loc S.length) (S ++ [.lst ((List.range j.toNat).map fun i => D.int (i : Nat))]))
  | _ => .bad
def lsD : List D → M D := fun ds S => match ds with
  | [.tup xs] => match intsO xs with
    | some ns => gd (ns.length < 64) (.ok (.int ((SG.met ns ns.length).length : Nat)) S)
    | none => .bad
  | _ => .bad
noncomputable def minL (l : Nat) (xs : List D) (fm : List D → M D) : List D → Option (D × List Int) → M D
  | [], b => fun S => if S[l]? = some (.lst xs) then (match b with
    | none => .ok .non S
    | some (x, _) => .ok x S) else .bad
  | d :: ds, b => fun S => if S[l]? = some (.lst xs) then (nE (fm [d] S)).bind fun k S1 => (match k with
    | .tup ks => (match intsO ks with
      | some ns => (match b with
        | none => minL l xs fm ds (some (d, ns)) S1
        | some (_, ms) => if HT.lexLt ns ms = true then minL l xs fm ds (some (d, ns)) S1 else minL l xs fm ds b S1)
      | none => .bad)
    | _ => .bad) else .bad
noncomputable def minKD (fm : List D → M D) : List D → M D := fun ds S => match ds with
  | [.loc l] => (match S[l]? with
    | some (.lst xs) => minL l xs fm xs none S
    | _ => .bad)
  | _ => .bad
def BR (J : Ip) (K : PySem.W.Frag) (H : Hp) (μ : List Addr) : SG.Bst → Option (D × List Int) → Prop
  | none, none => True
  | some (y, q, ms), some (d, ns) => RD J K H μ d y ∧ SqT K H q (ms.map V.int) ∧ ns = ms
  | _, _ => False
theorem BR.mono {K : PySem.W.Frag} {H H' : Hp} {μ μ' : List Addr} (x : Ext H μ H' μ') : ∀ {b : SG.Bst} {bd : Option (D × List Int)}, BR J K H μ b bd → BR J K H' μ' b bd
  | none, none, _ => trivial
  | some (y, q, ms), some (d, ns), ⟨h1, h2, h3⟩ => ⟨h1.mono x, SqT.imm x.imm h2, h3⟩
variable {k : Nat} {f : Addr} {fd : FuncData} {ps : List Str} {fm : List D → M D} {x : Str}
end
end SH
set_option Elab.async false
set_option linter.all false
set_option maxRecDepth 100000
set_option maxHeartbeats 4000000
theorem L2.Room.u65 {k : Nat} {A : PySem.Around} (r : L2.Room k A) : A.units + 65 < PySem.cLine := by have := r.un; omega
namespace SH
open PySem PySem.Spec L2
theorem blk_mk {N : List Str} {sc scope : Scope} {own : List (Str × Nat)} (h : decide (scope.kind = .function ∧ (∀ y ∈ scope.names, scope.names.lookup y.1 = some y.2) ∧ (∀ p ∈ own, N[p.2]? = some p.1) ∧
    (∀ y ∈ scope.names, y.2 = .free → sc.names.lookup y.1 = some .cell ∨ sc.names.lookup y.1 = some .free) ∧ ∀ y ∈ scope.names, y.2 = .local ∨ y.2 = .cell → y.1 ∈ own.map (·.1) ∨ y.1 ∉ N) = true) : BlkOk N sc scope own :=
  let ⟨h1, h2, h3, h4, h5⟩ := of_decide_eq_true h
  ⟨h1, h2, h3, h4, h5⟩
structure Cal (J : Ip) (P : Program) (w : World) (K : PySem.W.Frag) (mg : Str → Option Value) (base : Heap) (x : Str) (f : Addr) (fd : FuncData) (k : Nat) (ps : List Str) (fm : List D → M D) : Prop where
  ok : FnOk P w K mg base CX0 k f fd ps (spM J K ps.length fm)
  mg : mg x = some (.ref f)
  kp : PySem.W.keepIn K (.ref f) = true
  b : Binds K fd ps []
section
variable {J : Ip} {X : Cx} {k k' : Nat} {f : Addr} {fd : FuncData} {ps : List Str} {fm : List D → M D} {x : Str} {p cpos : Pos} {e : Expr} {es : List Expr} {as : Env → M (List D)}
theorem e_cal (C : Cal J X.prog X.w X.K X.mg X.base x f fd k ps fm) (hr : Room k' X.A) (hle : k ≤ k') (hg : Gl X x) (hn : ∀ ρ S ds S1, as ρ S = .ok ds S1 → ds.length = ps.length) (ha : PA X (e :: es) (tA J X.K noX as)) (hdb : (x == ("__debug__" : Str)) = false := by decide)
    (he : starEach (e :: es) X.env = (false, eval e X.env) :: starEach es X.env := by rfl) (hpl : (backTo cpos (starEach es X.env)).any (·.1) = false := by rfl) : PE X (.Call (.Name x p) (e :: es) [] cpos) (tM J X.K noX (eA fm as)) :=
  e_call C.ok (hr.mono hle) hg C.mg C.kp C.b hn ha hdb he hpl
end
end SH
set_option Elab.async false
set_option linter.all false
set_option maxRecDepth 100000
set_option maxHeartbeats 4000000
namespace SH
open PySem PySem.Spec L2
def J0 (tabs : List Addr) : Ip := ⟨fun _ _ _ => False, fun _ h => h, tabs, fun _ => .none, fun _ _ _ => True, fun _ _ => trivial, trivial, fun _ => True, fun _ _ _ => trivial⟩
theorem tab_of' {p : Program} {loose : List Str} {mean : ExcName → Option Value} {mg mb : Str → Option Value} {h : Heap} {K : PySem.W.Frag} {x : Str} {c P : Addr} (T : PyProof.Rows.Top p loose mean mg mb h) (X : K.In h) (hr : ((PyProof.Rows.recsOf p).find? (fun e => e.name == x)).isSome = true) (ht : PySem.W.tabIn K x = some (c, P)) :
    SG.CodeHd h c P ∧ h.get? P = some (PySem.W.tabObj #[]) := by
  obtain ⟨d, e⟩ := Option.isSome_iff_exists.mp hr
  exact PySem.W.tab_of T X e ht
section
variable {J : Ip} {K : PySem.W.Frag} {mg : Str → Option Value} {x : Str}
abbrev fdOf (x : Str) (st : Stmt) (kV doc pm : Value) (an : Option Addr) (c : Addr) (ct : Value) : FuncData := PySem.W.fnOf x x (defArgs st) (defBody st) (defScope st) .none kV doc pm an (.ref c) ct
variable {st : Stmt} {f c : Addr} {oc : Value} {od an : Option Addr} {osl : Array (Option Value)} {kV doc pm ct : Value}
theorem funC_mk (l : K.lookup f = some ⟨oc, od, .func (fdOf x st kV doc pm an c ct), osl⟩) (hc : PySem.W.codeIn K (.ref c) x = true) (k : PySem.W.keepIn K (.ref f) = true) : FunC K x x st f (fdOf x st kV doc pm an c ct) c := ⟨⟨oc, od, kV, doc, pm, an, ct, osl, rfl, l, hc⟩, k⟩
end
end SH
set_option Elab.async false
set_option linter.all false
set_option maxRecDepth 100000
set_option maxHeartbeats 4000000
namespace SG
open PySem PySem.Spec L2
section
variable {P : Program} {w : World} {A : Around} {E : Value → Shared → Prop} {s : Shared}
end
end SG
set_option Elab.async false
set_option linter.all false
set_option maxRecDepth 100000
set_option maxHeartbeats 4000000
namespace SG
open PySem PySem.Spec L2
abbrev zT1 (h : Heap) (a : Addr) : Heap := h.push { cls := .type "tuple_iterator", data := .fields #[.ref a, .int 0 0] }
abbrev zT2 (h : Heap) (a b : Addr) : Heap := (zT1 h a).push { cls := .type "tuple_iterator", data := .fields #[.ref b, .int 0 0] }
abbrev zT3 (h : Heap) (a b : Addr) : Heap := (zT2 h a b).push { cls := .type "tuple", data := .seq #[.ref h.objs.size, .ref (zT1 h a).objs.size] }
abbrev zT4 (h : Heap) (a b : Addr) : Heap := (zT3 h a b).push { cls := .type "tuple", data := .seq #[.none, .none] }
abbrev zT5 (h : Heap) (a b : Addr) : Heap := (zT4 h a b).push { cls := .type "zip", data := .fields #[.none, .bool false, .bool false, .ref (zT2 h a b).objs.size, .ref (zT3 h a b).objs.size] }
section
variable {P : Program} {w : World} {A : Around} {E : Value → Shared → Prop} {s : Shared}
end
def ItZ (K : PySem.W.Frag) (a b : Addr) : It :=
  ⟨fun i H => ∃ (xs ys : List V) (x y : V), SqT K H a xs ∧ SqT K H b ys ∧ xs[i]? = some x ∧ ys[i]? = some y,
    fun i H v H' => ∃ T x y, v = .ref T ∧ H T = none ∧ H' = upd H T (.tup [x, y]) ∧ (∀ xs, SqT K H a xs → xs[i]? = some x) ∧ ∀ ys, SqT K H b ys → ys[i]? = some y,
    fun i H => ∃ xs ys : List V, SqT K H a xs ∧ SqT K H b ys ∧ (xs.length ≤ i ∨ ys.length ≤ i)⟩
def iZipT (K : PySem.W.Frag) (ta : TA) : TI := fun σ H R => ta σ H fun vs H1 => ∃ a b xs ys, vs = [.ref a, .ref b] ∧ SqT K H1 a xs ∧ SqT K H1 b ys ∧ R (ItZ K a b) H1
end SG
set_option Elab.async false
set_option linter.all false
set_option maxRecDepth 100000
set_option maxHeartbeats 4000000
namespace SG
open PySem PySem.Spec L2
open AutoSeq1 (wpAny_loadPart')
open SeqAt (EqAt)
section
variable {X : Cx} {e : Expr} {ta : TA} {p p1 pos pos1 : Pos}
def rIndexT (K : PySem.W.Frag) : V → List V → Hp → VK → Prop := fun x xs H Q => ∃ (a : Addr) (ns : List Int) (k : Int) (j : Nat), x = V.ref a ∧ xs = [.int k] ∧ SqT K H a (ns.map V.int) ∧ ns[j]? = some k ∧ (∀ m, m < j → ns[m]? ≠ some k) ∧ Q (.int (j : Nat)) H
def tLenSetL (K : PySem.W.Frag) (ta : TA) : TE := fun σ H Q => ta σ H fun vs H1 => ∃ a ns, vs = [.ref a] ∧ SqL K H1 a (ns.map V.int) ∧ ns.length < 64 ∧ Q (.int ((met ns ns.length).length : Nat)) H1
end
end SG
set_option Elab.async false
set_option linter.all false
set_option maxRecDepth 100000
set_option maxHeartbeats 4000000
namespace SG
open PySem PySem.Spec L2
open PyProof.Rows (seqObj keyLt' oneType' general' tuples' keyKind' SortKind IntsAre)
def TIs (h : Heap) (v : Value) (ns : List Int) : Prop := ∃ a its, v = .ref a ∧ h.IsTuple a its ∧ IntsAre its.toList ns
section
variable {P : Program} {w : World} {A : Around} {E : Value → Shared → Prop} {s : Shared} {x y : Value} {ns ms : List Int} {Q : Bool → Shared → Prop}
def GoodK (κ : SortKind) : Prop := κ = general' ∨ κ = oneType' ∨ ∃ b, κ = tuples' b
end
section
variable {M : Model} {A : Around} {E : Value → Shared → Prop} {s : Shared}
end
end SG
set_option Elab.async false
set_option linter.all false
set_option maxRecDepth 100000
set_option maxHeartbeats 4000000
namespace SG
open PySem PySem.Spec L2
open PySem.W (KasT kas_sort)
def ev {α : Type} (n : Nat) (lt : Nat → Nat → Bool) : KasT α → Option α
  | .ret a => some a
  | .ask i j k => if i < n ∧ j < n then ev n lt (k (lt i j)) else none
def t2 (b10 b01 : Bool) (i j : Nat) : Bool := match i, j with
  | 1, 0 => b10
  | 0, 1 => b01
  | _, _ => false
def t3 (b01 b02 b10 b12 b20 b21 : Bool) (i j : Nat) : Bool := match i, j with
  | 0, 1 => b01
  | 0, 2 => b02
  | 1, 0 => b10
  | 1, 2 => b12
  | 2, 0 => b20
  | 2, 1 => b21
  | _, _ => false
def okEnd (n : Nat) (lt : Nat → Nat → Bool) : Option (Array Nat) → Bool
  | none => false
  | some p => p.toList.isPerm (List.range n) && (List.range (n - 1)).all fun i => !(lt (p.toList.getD (i + 1) 0) (p.toList.getD i 0))
def wk (b01 b02 b10 b12 b20 b21 : Bool) : Bool :=
  !(b01 && b10) && !(b02 && b20) && !(b12 && b21) && (!(b01 && b12) || b02) && (!(b02 && b21) || b01) && (!(b10 && b02) || b12) && (!(b12 && b20) || b10) && (!(b20 && b01) || b21) && (!(b21 && b10) || b20)
  && ((b01 || b12) || !b02) && ((b02 || b21) || !b01) && ((b10 || b02) || !b12) && ((b12 || b20) || !b10) && ((b20 || b01) || !b21) && ((b21 || b10) || !b20)
def lexSorted (ks : List (List Int)) : Prop := ks.Pairwise fun a b => HT.lexLt b a = false
def ltOf (ks : List (List Int)) (i j : Nat) : Bool := HT.lexLt (ks.getD i []) (ks.getD j [])
end SG
set_option Elab.async false
set_option linter.all false
set_option maxRecDepth 100000
set_option maxHeartbeats 4000000
namespace SG
open PySem PySem.Spec L2
open PyProof.Rows (seqObj keyLt' oneType' general' tuples' keyKind' SortKind IntsAre SortSt arrOf failedOf)
section
variable {P : Program} {w : World} {A : Around} {E : Value → Shared → Prop} {s : Shared}
theorem TIs.keep {h g : Heap} {a : Addr} {v : Value} {ns : List Int} {us : Array Value} {n : Nat} (ha : h.get? a = some (seqObj "list" us n)) (k : ∀ b o, b ≠ a → h.get? b = some o → g.get? b = some o) (t : TIs h v ns) : TIs g v ns := by
  obtain ⟨b, its, rfl, ⟨o, ho, hc, r⟩, hi⟩ := t
  refine ⟨b, its, rfl, ⟨o, k b o (fun e => ?_) ho, hc, r⟩, hi⟩
  subst e
  rw [ha] at ho
  cases ho
  simp [seqObj] at hc
end
def TAll (K : PySem.W.Frag) (H : Hp) (ps : List Addr) (ks : List (List Int)) : Prop := ps.length = ks.length ∧ ∀ (i : Nat) (p : Addr), ps[i]? = some p → SqT K H p ((ks.getD i []).map V.int)
def rSortTT (K : PySem.W.Frag) : List V → Hp → VK → Prop := fun vs H Q => ∃ (a : Addr) (ps : List Addr) (ks : List (List Int)), vs = [V.ref a] ∧ SqL K H a (ps.map V.ref) ∧ TAll K H ps ks ∧ ps.length ≤ 3 ∧
  ∀ (q : List Nat) (p : Addr), q.Perm (List.range ps.length) → lexSorted (q.map fun i => ks.getD i []) → H p = none → Q (.ref p) (upd H p (.lst ((q.map fun i => ps.getD i 0).map V.ref)))
end SG
set_option Elab.async false
set_option linter.all false
set_option maxRecDepth 100000
set_option maxHeartbeats 4000000
namespace SH
open PySem PySem.Spec L2
open Classical
def zipD : List D → List D → List D
  | x :: xs, y :: ys => .tup [x, y] :: zipD xs ys
  | _, _ => []
def iZp (a : Env → M (List D)) : Env → M Src := fun ρ S => (a ρ S).bind fun ds S1 => match ds with
  | [.tup xs, .tup ys] => .ok ⟨zipD xs ys, fun _ => True⟩ S1
  | _ => .bad
def iEnL (a : Env → M (List D)) : Env → M Src := fun ρ S => (a ρ S).bind fun ds S1 => match ds with
  | [.loc l] => (match S1[l]? with
    | some (.lst xs) => .ok ⟨enumD 0 xs, fun S => S[l]? = some (.lst xs)⟩ S1
    | _ => .bad)
  | _ => .bad
section
variable {J : Ip} {E : XE} {X : Cx} {e e2 tg iter : Expr} {pos p tpos : Pos} {elts : List Expr} {kk : Nat} {as : Env → M (List D)}
def idxL (xs : List D) (ds : List D) : M D := fun S => match ds with
  | [.int k] => match intsO xs with
    | some ns => if k ∈ ns then .ok (.int (ns.idxOf k : Nat)) S else .bad
    | none => .bad
  | _ => .bad
def idxD (x : D) (ds : List D) : M D := fun S => match x with
  | .tup xs => idxL xs ds S
  | _ => .bad
def eMT (f : D → List D → M D) (o : Env → M D) (as : Env → M (List D)) : Env → M D := fun ρ S => (o ρ S).bind fun x S1 => match x with
  | .tup _ => (as ρ S1).bind fun ds S2 => f x ds S2
  | _ => .bad
def tMT (K : PySem.W.Frag) (r : V → List V → Hp → VK → Prop) (to : TE) (t : TA) : TE := fun σ H Q => to σ H fun x H1 => ∃ a xs, x = .ref a ∧ SqT K H1 a xs ∧ t σ H1 fun ys H2 => r x ys H2 Q
end
end SH
set_option Elab.async false
set_option linter.all false
set_option maxRecDepth 100000
set_option maxHeartbeats 4000000
namespace SH
open PySem PySem.Spec L2
open Classical
def keyD : D → Option Key
  | .int i => some (.inl i)
  | .str s => some (.inr s)
  | _ => none
def lookD (kvs : List (Key × D)) (k : Key) : Option D := (kvs.find? fun kv => decide (kv.1 = k)).map (·.2)
def putD (kvs : List (Key × D)) (k : Key) (d : D) : List (Key × D) :=
  if (kvs.any fun kv => decide (kv.1 = k)) = true then kvs.map (fun kv => if kv.1 = k then (kv.1, d) else kv) else kvs ++ [(k, d)]
def KR (J : Ip) (K : PySem.W.Frag) (H : Hp) (μ : List Addr) (kvs : List (Key × D)) (vs : List (Key × V)) : Prop := kvs.map (·.1) = vs.map (·.1) ∧ RDs J K H μ (kvs.map (·.2)) (vs.map (·.2))
section
variable {J : Ip} {K : PySem.W.Frag} {H : Hp} {μ : List Addr}
theorem KR.cons' {kd : Key × D} {kvs : List (Key × D)} {vs : List (Key × V)} (h : KR J K H μ (kd :: kvs) vs) : ∃ kv ws, vs = kv :: ws ∧ kd.1 = kv.1 ∧ RD J K H μ kd.2 kv.2 ∧ KR J K H μ kvs ws := by
  obtain ⟨h1, h2⟩ := h
  cases vs with
  | nil => simp at h1
  | cons kv ws =>
    simp only [List.map_cons, List.cons.injEq] at h1
    cases h2 with
    | cons r rs => exact ⟨kv, ws, rfl, h1.1, r, h1.2, rs⟩
theorem KR.look : ∀ {kvs : List (Key × D)} {vs : List (Key × V)} (k : Key), KR J K H μ kvs vs → (lookD kvs k = none ∧ valV vs k = none) ∨ ∃ d v, lookD kvs k = some d ∧ valV vs k = some v ∧ RD J K H μ d v
  | [], vs, k, h => by
    have : vs = [] := by have := h.1; simpa using this.symm
    subst this
    exact .inl ⟨rfl, rfl⟩
  | kd :: kvs, vs, k, h => by
    obtain ⟨kv, ws, rfl, e, r, h'⟩ := h.cons'
    by_cases q : kd.1 = k
    · refine .inr ⟨kd.2, kv.2, by simp [lookD, List.find?_cons, q], valV_pos (e.symm.trans q), r⟩
    · have e1 : lookD (kd :: kvs) k = lookD kvs k := by simp [lookD, List.find?_cons, q]
      rw [e1, valV_neg (fun z => q (e.trans z))]
      exact KR.look k h'
theorem KR.put {d : D} {v : V} {k : Key} (rd : RD J K H μ d v) {kvs : List (Key × D)} {vs : List (Key × V)} (h : KR J K H μ kvs vs) : KR J K H μ (putD kvs k d) (putK vs k v) := by
  have e : (kvs.any fun kv => decide (kv.1 = k)) = (vs.any fun kv => decide (kv.1 = k)) := by
    have e1 : (kvs.any fun kv => decide (kv.1 = k)) = (kvs.map (·.1)).any fun x => decide (x = k) := by rw [List.any_map]; rfl
    have e2 : (vs.any fun kv => decide (kv.1 = k)) = (vs.map (·.1)).any fun x => decide (x = k) := by rw [List.any_map]; rfl
    rw [e1, e2, h.1]
  unfold putD putK
  rw [e]
  split
  · have go : ∀ {kvs : List (Key × D)} {vs : List (Key × V)}, KR J K H μ kvs vs → KR J K H μ (kvs.map (fun kv => if kv.1 = k then (kv.1, d) else kv)) (vs.map (fun kv => if kv.1 = k then (kv.1, v) else kv)) := by
      intro kvs
      induction kvs with
      | nil =>
        intro vs h
        have : vs = [] := by have := h.1; simpa using this.symm
        subst this
        exact ⟨rfl, .nil⟩
      | cons kd kvs ih =>
        intro vs h
        obtain ⟨kv, ws, rfl, e, r, h'⟩ := h.cons'
        obtain ⟨i1, i2⟩ := ih h'
        by_cases q : kd.1 = k
        · have q' : kv.1 = k := e.symm.trans q
          simp only [List.map_cons, if_pos q, if_pos q']
          exact ⟨by simp only [List.map_cons, i1, e], .cons rd i2⟩
        · have q' : ¬ kv.1 = k := fun z => q (e.trans z)
          simp only [List.map_cons, if_neg q, if_neg q']
          exact ⟨by simp only [List.map_cons, i1, e], .cons r i2⟩
    exact go h
  · refine ⟨by simp [h.1], ?_⟩
    rw [List.map_append, List.map_append]
    exact RDs.append h.2 (.cons rd .nil)
theorem Rp.dct {S : Store} {l : Nat} {a : Addr} {kvs : List (Key × D)} (rp : Rp J K H μ S) (hl : μ[l]? = some a) (hs : S[l]? = some (.dct kvs)) : ∃ vs, H a = some (.dK vs) ∧ KR J K H μ kvs vs := rp.obj l a _ hl hs
end
def eDNew : Env → M D := fun _ S => .ok (.loc S.length) (S ++ [.dct []])
def ixK (x y : D) : M D := fun S => match x, keyD y with
  | .loc l, some k => (match S[l]? with
    | some (.dct kvs) => (match lookD kvs k with
      | some d => .ok d S
      | none => .bad)
    | _ => .bad)
  | _, _ => .bad
def ixB (x y : D) : M D := match x with
  | .loc _ => ixK x y
  | _ => ixD x y
def inK (neg : Bool) (x y : D) : M D := fun S => match y, keyD x with
  | .loc l, some k => (match S[l]? with
    | some (.dct kvs) => .ok (.bl (if neg = true then !(lookD kvs k).isSome else (lookD kvs k).isSome)) S
    | _ => .bad)
  | _, _ => .bad
def setK (x y v : D) : M Unit := fun S => match x, keyD y with
  | .loc l, some k => (match S[l]? with
    | some (.dct kvs) => gd (kvs.length < sizeLine) (.ok () (S.set l (.dct (putD kvs k v))))
    | _ => .bad)
  | _, _ => .bad
def sPut (a o i : Env → M D) : Env → M Fl := fun ρ S => (a ρ S).bind fun v S1 => (o ρ S1).bind fun x S2 => (i ρ S2).bind fun y S3 => (setK x y v S3).bind fun _ S4 => .ok (.nx ρ) S4
section
variable {J : Ip} {E : XE} {X : Cx} {a b e o i : Expr} {pos p tpos : Pos} {ma mb mo mi : Env → M D} {as : Env → M (List D)}
theorem e_dnew : PE X (.Dict [] [] pos) (tM J X.K E eDNew) := PE.imp pe_dnewK fun σ H Q ⟨μ, S, ρ, rp, re, p⟩ q hq => p _ _ _ (Ext.alloc hq) (rp.alloc hq ⟨[], upd_same, rfl, .nil⟩) (loc_new rp q)
def lsL : List D → M D := fun ds S => match ds with
  | [.loc l] => (match S[l]? with
    | some (.lst xs) => (match intsO xs with
      | some ns => gd (ns.length < 64) (.ok (.int ((SG.met ns ns.length).length : Nat)) S)
      | none => .bad)
    | _ => .bad)
  | _ => .bad
def tupsO : List D → Option (List (List Int))
  | [] => some []
  | .tup xs :: ds => (match intsO xs, tupsO ds with
    | some ns, some ks => some (ns :: ks)
    | _, _ => none)
  | _ => none
def lexSort (ks : List (List Int)) : List (List Int) := ks.mergeSort fun a b => !HT.lexLt b a
def encK (ns : List Int) : D := .tup (ns.map D.int)
def sortTD : List D → M D := fun ds S => match ds with
  | [.loc l] => (match S[l]? with
    | some (.lst xs) => (match tupsO xs with
      | some ks => gd (ks.length ≤ 3) (.ok (.loc S.length) (S ++ [.lst ((lexSort ks).map encK)]))
      | none => .bad)
    | _ => .bad)
  | _ => .bad
end
end SH
set_option Elab.async false
set_option linter.all false
set_option maxRecDepth 100000
set_option maxHeartbeats 4000000
namespace SH
open PySem PySem.Spec L2
open Classical
section
variable {J : Ip} {E : XE} {X : Cx} {elt tg iter tg1 iter1 : Expr} {ifs ifs1 : List Expr} {pos : Pos} {me : Env → M D} {mq mq1 : Env → M Bool} {mi mi1 : Env → M Src} {scope : Scope} {own : List (Str × Nat)}
end
end SH
set_option Elab.async false
set_option linter.all false
set_option maxRecDepth 100000
set_option maxHeartbeats 4000000
namespace SG
open PySem PySem.Spec L2
section
variable {P : Program} {w : World} {A : Around} {E : Value → Shared → Prop} {s : Shared}
end
section
variable {X : Cx} {e st : Expr} {te : TE} {pos p2 : Pos}
def tRev (K : PySem.W.Frag) (te : TE) : TE := fun σ H Q => te σ H fun x H1 => ∃ a xs, x = .ref a ∧ SqT K H1 a xs ∧ ∀ p, H1 p = none → Q (.ref p) (upd H1 p (.tup xs.reverse))
end
end SG
namespace SH
open PySem PySem.Spec L2
def revD : D → M D := fun x S => match x with
  | .tup xs => .ok (.tup xs.reverse) S
  | _ => .bad
section
variable {J : Ip} {E : XE} {X : Cx} {e st : Expr} {pos p2 : Pos} {ma : Env → M D}
end
end SH
set_option Elab.async false
set_option linter.all false
set_option maxRecDepth 100000
set_option maxHeartbeats 4000000
namespace SH
open PySem PySem.Spec L2
open Classical
def blsO : List D → Option (List Bool)
  | [] => some []
  | .bl b :: ds => (blsO ds).map fun bs => b :: bs
  | _ => none
def allD (k : Bool) : List D → M D := fun ds S => match ds with
  | [.loc l] => (match S[l]? with
    | some (.lst xs) => (match blsO xs with
      | some bs => .ok (.bl (if k = true then bs.all id else bs.any id)) S
      | none => .bad)
    | _ => .bad)
  | _ => .bad
def extD (x : D) (ds : List D) : M D := fun S => match x, ds with
  | .loc l, [.loc k] => (match S[l]?, S[k]? with
    | some (.lst xs), some (.lst ys) => gd (xs.length + ys.length ≤ sizeLine) (.ok .non (S.set l (.lst (xs ++ ys))))
    | _, _ => .bad)
  | _, _ => .bad
def rvsD (x : D) (ds : List D) : M D := fun S => match x, ds with
  | .loc l, [] => (match S[l]? with
    | some (.lst xs) => .ok .non (S.set l (.lst xs.reverse))
    | _ => .bad)
  | _, _ => .bad
def eM0 (f : D → List D → M D) (o : Env → M D) : Env → M D := fun ρ S => (o ρ S).bind fun x S1 => match lItems S1 x with
  | some _ => f x [] S1
  | none => .bad
section
variable {J : Ip} {E : XE} {X : Cx}
theorem bls_rd {K : PySem.W.Frag} {H : Hp} {μ : List Addr} : ∀ {xs : List D} {bs : List Bool} {vs : List V}, blsO xs = some bs → RDs J K H μ xs vs → vs = bs.map V.bl
  | [], bs, vs, h, r => by cases h; cases r; rfl
  | .bl b :: xs, bs, vs, h, r => by
    unfold blsO at h
    cases q : blsO xs with
    | none => rw [q] at h; cases h
    | some cs =>
      rw [q] at h
      cases h
      cases r with
      | cons h r => cases h; rw [bls_rd q r]; rfl
  | .non :: _, _, _, h, _ => by cases h
  | .int _ :: _, _, _, h, _ => by cases h
  | .str _ :: _, _, _, h, _ => by cases h
  | .tup _ :: _, _, _, h, _ => by cases h
  | .con _ :: _, _, _, h, _ => by cases h
  | .loc _ :: _, _, _, h, _ => by cases h
  | .ext _ :: _, _, _, h, _ => by cases h
  | .ty _ :: _, _, _, h, _ => by cases h
theorem e_neg {k : Int} {j : Nat} {p3 p4 : Pos} : PE X (.UnaryOp .USub (.Constant (.int k) j p3) p4) (tM J X.K E (eC (.int (-k)))) := PE.imp (pe_un un_neg pe_int) fun σ H Q ⟨μ, S, ρ, rp, re, p⟩ => ⟨k, rfl, p μ H _ .refl rp (.int _)⟩
end
end SH
set_option Elab.async false
set_option linter.all false
set_option maxRecDepth 100000
set_option maxHeartbeats 4000000
namespace SX
open PySem PySem.Spec L2 SH
theorem obj_there {P : Program} {w : World} {H : Hp} {h : Heap} {a : Addr} : ∀ {o : HO}, ObjOk P w H h a o → ∃ u, h.get? a = some u
  | .lst _, ⟨_, _, _, _, e⟩ => ⟨_, e⟩
  | .tup _, ⟨_, _, _, u, e, _⟩ => ⟨u, e⟩
  | .dK _, ⟨_, _, _, _, u, _, _, e, _⟩ => ⟨u, e⟩
  | .dT _, ⟨_, _, _, _, u, _, _, e, _⟩ => ⟨u, e⟩
  | .set _ _, ⟨u, _, _, _, e, _⟩ => ⟨u, e⟩
  | .ins _ _ _, ⟨_, _, _, e, _⟩ => ⟨_, e⟩
  | .own _, ⟨u, e⟩ => ⟨u, e⟩
  | .xd _, ⟨_, ⟨_, _, _, e, _⟩, _⟩ => ⟨_, e⟩
  | .rng _ _, ⟨_, _, _, e⟩ => ⟨_, e⟩
  | .frz u _, ⟨e, _⟩ => ⟨u, e⟩
  | .tbl _, e => ⟨_, e⟩
  | .met _ _, e => ⟨_, e⟩
  | .ext _, ⟨_, ⟨u, e⟩, _⟩ => ⟨u, e⟩
def CXe (P : Program) (w : World) : CXT := fun outer H s E e s' => ∃ (H' : Hp) (ea : Addr) (cls a0 : Value) (B : Heap),
  e = .ref ea ∧ s'.os = s.os ∧ PyProof.Rows.AllBare s'.gens ∧ Un (frs outer) [] H H' s.heap s'.heap ∧ HOk P w H' s'.heap ∧ Heap.FlyingW B outer ea cls a0 s'.heap ∧
  (∀ b o, s.heap.get? b = some o → b ∉ frs outer → ∃ u, B.get? b = some u) ∧ (∀ b o, H' b = some o → ∃ u, B.get? b = some u) ∧ E cls none H'
theorem cxe_no {P : Program} {w : World} {outer : List PySem.Env} {H : Hp} {s s' : Shared} {e : Value} (x : CXe P w outer H s (fun _ _ _ => False) e s') : False := by
  obtain ⟨_, _, _, _, _, _, _, _, _, _, _, _, _, z⟩ := x
  exact z
section
variable {P : Program} {w : World} {K : PySem.W.Frag} {mg : Str → Option Value} {base : Heap} {N : List Str} {qual : Str} {scope : Scope} {f : Addr} {cd : Value} {A : Around} {outer : List PySem.Env} {s : Shared} {H : Hp}
theorem frs_cons {env : PySem.Env} {L : Addr} {l : List PySem.Env} (h : env.frame = some L) : frs (env :: l) = L :: frs l := by
  unfold frs
  rw [List.filterMap_cons, h]
theorem hok_stays {B h h' : Heap} {H' : Hp} (x : HOk P w H' h) (s1 : B.StaysIn h) (s2 : B.StaysIn h') (t : ∀ b o, H' b = some o → ∃ u, B.get? b = some u) : HOk P w H' h' := fun b o e => by
  refine (x b o e).stay (fun c u hc q => ?_) (fun _ q => q) fun _ _ q => q
  have hc' : ∃ o', H' c = some o' := by
    rcases hc with rfl | hc
    · exact ⟨o, e⟩
    · exact ⟨_, hc⟩
  obtain ⟨o', ho'⟩ := hc'
  obtain ⟨u', hu'⟩ := t c o' ho'
  have := s1 c u' hu'
  rw [q] at this
  cases this
  exact s2 c _ hu'
structure Lv (X : Cx) (E : XK) : Prop where
  xe : X.xe = fun e s' => wpAny (model X.prog X.w) X.A (leaving X.env e) (fun _ s'' => CXe X.prog X.w X.outer X.H_0 X.s_0 E e s'') (fun e' s'' => CXe X.prog X.w X.outer X.H_0 X.s_0 E e' s'') s'
  st : X.stack = X.env :: X.outer
  fr : X.env.frame = some X.env.locals
  ex : X.ex = []
theorem lv_cx {E' : XK} : Lv (cxOf (CXe P w) P w K mg base N qual scope f cd A outer s H E') E' := ⟨rfl, rfl, rfl, rfl⟩
section
variable {X : Cx} {E E' : XK} {pins : List (Addr × Obj)} {σ : L2.St}
theorem leave_un {H' : Hp} {s' : Shared} {B h' : Heap} (hex : X.ex = []) (I : Inv X pins σ H' s')
    (st : B.StaysIn s'.heap) (st' : B.StaysIn h') (ff : s'.heap.FunFrames B X.outer) (up : s'.heap.UpToSlots h') (t1 : ∀ b o, X.s_0.heap.get? b = some o → b ∉ frs X.outer → ∃ u, B.get? b = some u) : Un (frs X.outer) [] X.H_0 H' X.s_0.heap h' := by
  have base := I.base
  rw [hex] at base
  refine ⟨fun b o e n hb _ => ?_, fun b o e n hb _ => ?_, base.free, fun b o e _ => ?_, base.tups, base.frzs, base.tbls⟩
  · have e1 := base.keep b o e n hb (fun z => nomatch z)
    obtain ⟨u, hu⟩ := t1 b o e hb
    have := st b u hu
    rw [e1] at this
    cases this
    exact st' b _ hu
  · obtain ⟨sl, e1⟩ := base.slot b o e n hb (fun z => nomatch z)
    obtain ⟨_, o2, e2, nf⟩ := ff.mem hb
    rw [e1] at e2
    cases e2
    obtain ⟨sl', e3⟩ := up b _ e1 nf
    exact ⟨sl', e3⟩
  · by_cases hb : b ∈ frs X.outer
    · obtain ⟨_, o2, e2, nf⟩ := ff.mem hb
      obtain ⟨sl', e3⟩ := up b _ e2 nf
      exact ⟨_, e3⟩
    · obtain ⟨u, hu⟩ := t1 b o e hb
      exact ⟨u, st' b u hu⟩
theorem notin_stack (L : Lv X E') (ok : X.Ok) {b : Addr} {o : Obj} (e : X.s_0.heap.get? b = some o) (hb : b ∉ frs X.outer) : b ∉ frs X.stack := by
  rw [L.st, frs_cons L.fr]
  intro hm
  rcases List.mem_cons.mp hm with z | z
  · exact absurd (Nat.lt_of_lt_of_le (Heap.lt_size e) ok.above) (by rw [z]; exact Nat.lt_irrefl _)
  · exact hb z
theorem pass_lv (L : Lv X E') (hE : ∀ cls H', E cls none H' → E' cls none H') : Passes (CXe X.prog X.w) X E := by
  intro pins σ H1 s1 e s' I hx
  obtain ⟨H', ea, cls, a0, B, rfl, hos, hbare, un, hok, fl, tA, tB, hE1⟩ := hx
  have I' := I.call' hos un hok hbare (fun b z => nomatch z)
  rw [L.xe]
  have hfr : X.A.frames = some (X.env :: X.outer) := by rw [← L.st]; exact I.ok.frames
  rw [L.st] at fl
  refine wpAny_leaves_onW (L := X.env.locals) hfr L.fr fl fun h' fl' up => ?_
  have t1 : ∀ b o, X.s_0.heap.get? b = some o → b ∉ frs X.outer → ∃ u, B.get? b = some u := fun b o e hb => by
    obtain ⟨o1, e1⟩ := I.base.there b o e (by rw [L.ex]; exact fun z => nomatch z)
    exact tA b o1 e1 (notin_stack L I.ok e hb)
  exact ⟨H', ea, cls, a0, B, rfl, I'.os, hbare, leave_un L.ex I' fl.1 fl'.1 fl.2.2.1.2.2 up t1, hok_stays hok fl.1 fl'.1 tB, fl', t1, tB, hE _ _ hE1⟩
theorem made_lv {H1 : Hp} {s1 : Shared} {h' : Heap} {e : Addr} {cls : Value} {args : List Value} (L : Lv X E') (I : Inv X pins σ H1 s1) (m : Heap.MadeExcOf s1.heap h' e cls args) (hE : E' cls none H1) : X.xe (.ref e) { s1 with heap := h' } := by
  have hfr : X.A.frames = some (X.env :: X.outer) := by rw [← L.st]; exact I.ok.frames
  have hfs : s1.heap.FunFrames (PySem.W.hideAll s1.heap (frs X.stack)) (X.env :: X.outer) := by
    rw [← L.st]
    exact PySem.W.funFrames_hide I.stack fun env he a ha => List.mem_filterMap.mpr ⟨env, he, ha⟩
  have sB : (PySem.W.hideAll s1.heap (frs X.stack)).StaysIn s1.heap := fun b o q => PySem.W.of_hideAll _ q
  rw [L.xe]
  refine wpAny_leaves_madeW (s := { s1 with heap := h' }) (L := X.env.locals) hfr L.fr sB hfs m fun h2 t fl _ _ up => ?_
  have I' := I.kept (t' := s1.toks) m.keeps
  have t0 : ∀ b o, s1.heap.get? b = some o → b ∉ frs X.stack → (PySem.W.hideAll s1.heap (frs X.stack)).get? b = some o := fun b o e hb => PySem.W.hideAll_get _ e hb
  have t1 : ∀ b o, X.s_0.heap.get? b = some o → b ∉ frs X.outer → ∃ u, (PySem.W.hideAll s1.heap (frs X.stack)).get? b = some u := fun b o e hb => by
    obtain ⟨o1, e1⟩ := I.base.there b o e (by rw [L.ex]; exact fun z => nomatch z)
    exact ⟨o1, t0 b o1 e1 (notin_stack L I.ok e hb)⟩
  have tB : ∀ b o, H1 b = some o → ∃ u, (PySem.W.hideAll s1.heap (frs X.stack)).get? b = some u := fun b o e => by
    obtain ⟨u, hu⟩ := obj_there (I.hok b o e)
    refine ⟨u, t0 b u hu fun hm => ?_⟩
    have := I.stkFree b hm
    rw [e] at this
    cases this
  have sB' : (PySem.W.hideAll s1.heap (frs X.stack)).StaysIn h' := fun b o q => m.keeps b o (sB b o q)
  have ff : h'.FunFrames (PySem.W.hideAll s1.heap (frs X.stack)) X.outer := hfs.2.2.of_keeps fun b o hb _ => ⟨o, m.keeps b o hb, rfl⟩
  exact ⟨H1, e, cls, _, _, rfl, I'.os, I.bare, leave_un L.ex I' sB' fl.1 ff up t1, hok_stays I.hok sB fl.1 tB, fl, t1, tB, hE⟩
end
end
end SX
set_option Elab.async false
set_option linter.all false
set_option maxRecDepth 100000
set_option maxHeartbeats 4000000
namespace SX
open PySem PySem.Spec L2 SH
abbrev bmV : List Value := [.type "ValueError", .type "Exception", .type "BaseException", .type "object"]
abbrev newV : String := "ValueError.__new__"
theorem cls_at {K : PySem.W.Frag} {h : Heap} {C : Addr} (X : K.In h) (q : PySem.W.excIn K C bmV newV = true) : ∃ bm N nm qn bs hdct sn sub ab col dd k0 k1 k2 k3 k5 mN,
    h.get? C = some (excClassObj nm qn C N bs bm hdct sn sub ab col dd k0 k1 k2 k3 k5 newV) ∧ h.Ns N mN ∧ mN "__init__" = none ∧ OwnTail h bmV bm ∧ K.lookup C = some (excClassObj nm qn C N bs bm hdct sn sub ab col dd k0 k1 k2 k3 k5 newV) := by
  unfold PySem.W.excIn at q
  split at q
  next dd cd sl look =>
    split at q
    next C1 bm k0 k1 k2 k3 n k5 em es =>
      simp only [Bool.and_eq_true, beq_iff_eq, Bool.not_eq_true'] at q
      obtain ⟨⟨⟨⟨⟨e1, e2⟩, e3⟩, e4⟩, e5⟩, e6⟩ := q
      subst e1 e2
      cases cd with
      | mk nm bs mro ns qn hd sn sub ab col del =>
        dsimp only at em e3 e5 e6
        subst em e3
        have esl : sl = #[k0, k1, k2, k3, some (.builtin newV), k5] := by
          cases sl with
          | mk l => simp only at es; rw [es]
        subst esl
        exact ⟨bm, ns, nm, qn, bs, hd, sn, sub, ab, col, dd, k0, k1, k2, k3, k5, _, X _ _ look, .of_isNs (PySem.W.isNs_of_in X e5), PySem.W.nsMap_none_of_in X e5 e6, PySem.W.tail_of_in X e4, look⟩
    next => cases q
  next => cases q
def Made (J : Ip) (X : Cx) (E : XE) : Prop := ∀ (pins : List (Addr × Obj)) (σ : L2.St) (H : Hp) (s : Shared) (h' : Heap) (e : Addr) (c : Nat) (args : List Value), Inv X pins σ H s → Heap.MadeExcOf s.heap h' e (J.cls c) args → E c H → X.xe (.ref e) { s with heap := h' }
def lift (J : Ip) (E : XE) : XK := fun cls _ H => ∃ c, cls = J.cls c ∧ E c H
structure XOk (J : Ip) (X : Cx) (E : XE) : Prop where
  made : Made J X E
  pass : Passes (CXe X.prog X.w) X (lift J E)
  calm : X.A.handled = none
def sRaise (c : Nat) (as : SH.Env → M (List D)) : SH.Env → M Fl := fun ρ S => (as ρ S).bind fun _ S1 => .exc c S1
section
variable {J : Ip} {X : Cx} {E : XE} {c : Nat} {C : Addr} {x : Str} {np cpos pos : Pos} {e0 : Expr} {rest : List Expr} {as : SH.Env → M (List D)}
theorem PA.len {es : List Expr} {t : TA} (h : PA X es t) {pos : Pos} {pins : List (Addr × Obj)} {s : Shared} {σ : L2.St} {H : Hp} {Q : List V → Hp → Prop} (I : Inv X pins σ H s) (q : t σ H Q) : wpAny (model X.prog X.w) X.A (spliced (backTo pos (starEach es X.env))) (AP X pins σ Q) X.xe s := h pos pins s σ H Q I q
theorem s_raise (hx : XOk J X E) (hc : J.cls c = .ref C) (q : PySem.W.excIn X.K C bmV newV = true) (hg : Gl X x) (hm : X.mg x = some (.ref C)) (ha : PA X (e0 :: rest) (tA J X.K E as)) (hn : ∀ ρ S ds S1, as ρ S = .ok ds S1 → ds.length ≤ 1000) (hdb : (x == ("__debug__" : Str)) = false := by decide)
    (he : starEach (e0 :: rest) X.env = (false, eval e0 X.env) :: starEach rest X.env := by rfl) (hpl : (backTo cpos (starEach rest X.env)).any (·.1) = false := by rfl) :
    PS X (.Raise (some (.Call (.Name x np) (e0 :: rest) [] cpos)) none pos) (tS J X.K E (sRaise c as)) := by
  intro pins s σ H De I ⟨μ, S, ρ, rp, re, p⟩
  obtain ⟨bm, N, nm, qn, bs, hdct, sn, sub, ab, col, dd, k0, k1, k2, k3, k5, mN, gC, gN, gi, gT, _⟩ := cls_at I.ok.mod.kin q
  refine wpAny_Raise_call_subT (C := C) (nm := nm) (q := qn) (N := N) (bs := bs) (bm := bm) (hdct := hdct) (sn := sn) (sub := sub) (ab := ab) (col := col) (dd := dd) (k0 := k0) (k1 := k1) (k2 := k2) (k3 := k3) (k5 := k5)
    PySem.F.excBase_ValueError (mN := mN) (gT.hasType PySem.F.excBase_ValueError.hasBase) hx.calm (by rw [he]; show (false || (backTo cpos (starEach rest X.env)).any (·.1)) = false; rw [hpl]; rfl) gi (ld_glob I hg hm ⟨rfl, ?_⟩ hdb)
  have w1 := ha cpos pins s σ H (fun vs H1 => vs.length ≤ 1000 ∧ E c H1) I ⟨μ, S, ρ, rp, re, by
    unfold sRaise at p
    cases h : as ρ S with
    | ok ds S1 =>
      rw [h] at p
      intro μ1 H1 vs x1 rp1 rds
      exact ⟨by rw [← rds.length]; exact hn _ _ _ _ h, p μ1 H1 x1 rp1⟩
    | exc c' S1 => rw [h] at p; exact p
    | bad => rw [h] at p; exact p⟩
  rw [he] at w1 ⊢
  refine Calls.evalArgs_plain (thn w1 fun us s2 ⟨vs, H1, I1, r1, q1, q2⟩ => ⟨rfl, ?_, ?_⟩)
  · rw [← r1.length]
    exact Nat.le_trans q1 (by decide)
  · exact ⟨I1.bk _ _ gC, gN.keeps I1.bk, gT.keeps I1.bk, fun h' e m => hx.made pins σ H1 s2 h' e c us I1 (hc.symm ▸ m) q2⟩
end
end SX
set_option Elab.async false
set_option linter.all false
set_option maxRecDepth 100000
set_option maxHeartbeats 4000000
namespace SX
open PySem PySem.Spec L2 SH
theorem Post.xmono {J : Ip} {K : PySem.W.Frag} {E E' : XE} {H : Hp} {μ : List Addr} {r : R D} {Q : VK} (p : Post J K E H μ r Q) (h : ∀ c H', E c H' → E' c H') : Post J K E' H μ r Q := by
  cases r with
  | ok d S => exact p
  | exc c S => exact fun μ' H' x y => h _ _ (p μ' H' x y)
  | bad => exact p
def spX (J : Ip) (K : PySem.W.Frag) (n : Nat) (fm : List D → M D) : Sp := fun vs H Q E => vs.length = n ∧ ∃ μ S ds, Rp J K H μ S ∧ RDs J K H μ ds vs ∧ Post J K (fun c H' => E (J.cls c) none H') H μ (fm ds S) Q
section
variable {J : Ip} {P : Program} {w : World} {K : PySem.W.Frag} {mg : Str → Option Value} {base : Heap}
theorem to_cx0 {k : Nat} {f : Addr} {fd : FuncData} {ps : List Str} {n : Nat} {fm : List D → M D} (F : FnOk P w K mg base (CXe P w) k f fd ps (spX J K n fm)) : FnOk P w K mg base CX0 k f fd ps (spM J K n fm) := by
  have conv : ∀ {vs H Q E}, spM J K n fm vs H Q E → spX J K n fm vs H Q (fun _ _ _ => False) := fun ⟨h1, μ, S, ds, rp, rds, p⟩ => ⟨h1, μ, S, ds, rp, rds, Post.xmono p fun _ _ z => z⟩
  refine ⟨fun vs H Q E h => F.len vs H Q _ (conv h), fun A outer s H args us vs Q E hr e0 hb hv hs => codeAny_mono (F.run A outer s H args us vs Q _ hr e0 hb hv (conv hs)) fun r s' hq => ?_⟩
  cases r with
  | error e => exact (cxe_no hq).elim
  | ok fl => cases fl <;> exact hq
theorem fn_okX {x qual : Str} {st : Stmt} {f c : Addr} {fd : FuncData} {N ps : List Str} {k : Nat} {ms : SH.Env → M Fl} (F : FunC K x qual st f fd c) (Sc : FnScope N ps (defScope st))
    (hb : ∀ (A : Around) (outer : List PySem.Env) (s : Shared) (H : Hp) (E : XK), Room k (A.deeper (PyProof.Rows.envOfC qual (defScope st) s.heap.objs.size f (.ref c))) →
      XOk J (cxOf (CXe P w) P w K mg base N qual (defScope st) f (.ref c) A outer s H E) (fun c H' => E (J.cls c) none H') →
      PSs (cxOf (CXe P w) P w K mg base N qual (defScope st) f (.ref c) A outer s H E) (defBody st) (tS J K (fun c H' => E (J.cls c) none H') ms)) :
    FnOk P w K mg base (CXe P w) (k + 1) f fd ps (spX J K ps.length (runF N.length ms)) := by
  obtain ⟨oc, od, kV, doc, pm, an, ct, osl, rfl, lk, hcd⟩ := F.ex
  refine fn_of lk hcd Sc (fun vs H Q E h => h.1) fun A outer s H vs Q E hr hsp => ?_
  obtain ⟨hl, μ, S, ds, rp, rds, q⟩ := hsp
  have xok : XOk J (cxOf (CXe P w) P w K mg base N qual (defScope st) f (.ref c) A outer s H E) (fun c H' => E (J.cls c) none H') :=
    ⟨fun pins σ H1 s1 h' e c args I m hE => made_lv lv_cx I m hE, pass_lv lv_cx fun cls H' ⟨c, e, hE⟩ => by subst e; exact hE, hr.hd⟩
  refine ⟨tS J K (fun c H' => E (J.cls c) none H') ms, hb A outer s H E hr xok, μ, S, startE N.length ds, rp, start_env rds, ?_⟩
  unfold runF at q
  cases h : ms (startE N.length ds) S with
  | exc c S1 => rw [h] at q; exact q
  | bad => rw [h] at q; exact q
  | ok f S1 =>
    rw [h] at q
    cases f with
    | nx ρ1 => exact fun μ' H' σ' x' rp' _ => q μ' H' .non x' rp' .non
    | rt d => exact q
    | bk ρ1 => exact False.elim q
    | ct ρ1 => exact False.elim q
end
structure CalX (J : Ip) (P : Program) (w : World) (K : PySem.W.Frag) (mg : Str → Option Value) (base : Heap) (x : Str) (f : Addr) (fd : FuncData) (k : Nat) (ps : List Str) (fm : List D → M D) : Prop where
  ok : FnOk P w K mg base (CXe P w) k f fd ps (spX J K ps.length fm)
  mg : mg x = some (.ref f)
  kp : PySem.W.keepIn K (.ref f) = true
  b : Binds K fd ps []
theorem CalX.cal {J : Ip} {P : Program} {w : World} {K : PySem.W.Frag} {mg : Str → Option Value} {base : Heap} {x : Str} {f : Addr} {fd : FuncData} {k : Nat} {ps : List Str} {fm : List D → M D} (C : CalX J P w K mg base x f fd k ps fm) : Cal J P w K mg base x f fd k ps fm := ⟨to_cx0 C.ok, C.mg, C.kp, C.b⟩
section
variable {J : Ip} {X : Cx} {E : XE} {k k' : Nat} {f : Addr} {fd : FuncData} {ps : List Str} {fm : List D → M D} {x : Str} {p cpos : Pos} {e : Expr} {es : List Expr} {as : SH.Env → M (List D)}
theorem e_calX (hx : XOk J X E) (C : CalX J X.prog X.w X.K X.mg X.base x f fd k ps fm) (hr : Room k' X.A) (hle : k ≤ k') (hg : Gl X x) (hn : ∀ ρ S ds S1, as ρ S = .ok ds S1 → ds.length = ps.length) (ha : PA X (e :: es) (tA J X.K E as)) (hdb : (x == ("__debug__" : Str)) = false := by decide)
    (he : starEach (e :: es) X.env = (false, eval e X.env) :: starEach es X.env := by rfl) (hpl : (backTo cpos (starEach es X.env)).any (·.1) = false := by rfl) : PE X (.Call (.Name x p) (e :: es) [] cpos) (tM J X.K E (eA fm as)) := by
  refine PE.imp (pe_call C.ok (hr.mono hle) hg C.mg C.kp C.b .nil hx.pass ha hdb he hpl) fun σ H Q h => ?_
  obtain ⟨μ, S, ρ, rp, re, p⟩ := h
  refine ⟨μ, S, ρ, rp, re, ?_⟩
  have q := Post.stepA p
  cases h : as ρ S with
  | exc c S1 => rw [h] at q; exact q
  | bad => rw [h] at q; exact q
  | ok ds S1 =>
    rw [h] at q
    intro μ1 H1 vs x1 rp1 rds
    have p1 := Post.later x1 p
    unfold eA at p1
    rw [h] at p1
    rw [List.append_nil]
    exact ⟨by rw [← rds.length]; exact hn _ _ _ _ h, μ1, S1, ds, rp1, rds, Post.xmono p1 fun c H' z => ⟨c, rfl, z⟩⟩
end
end SX
set_option Elab.async false
set_option linter.all false
set_option maxRecDepth 100000
set_option maxHeartbeats 4000000
namespace SX
open PySem PySem.Spec L2 SH
def CodeO (c : Addr) (qual : Str) : Heap → Prop := fun h => ∃ o vs t, h.get? c = some o ∧ o.data = .fields vs ∧ vs[1]? = some (.str qual t)
def ErrO (a : Addr) (cls : Value) : Heap → Prop := fun h => ∃ o vs, h.get? a = some o ∧ o.cls = cls ∧ o.data = .fields vs
theorem codeO_rec {c : Addr} {qual : Str} {h : Heap} (x : CodeO c qual h) : h.CodeRec (.ref c) qual := let ⟨o, vs, t, e, d, v⟩ := x; ⟨c, o, vs, t, rfl, e, d, v⟩
theorem rec_codeO {c : Addr} {qual : Str} {h : Heap} (x : h.CodeRec (.ref c) qual) : CodeO c qual h := by
  obtain ⟨c', o, vs, t, e, h1, h2, h3⟩ := x
  cases e
  exact ⟨o, vs, t, h1, h2, h3⟩
def codes : List Value → List Value
  | .int _ _ :: .int _ _ :: c :: rest => c :: codes rest
  | _ => []
theorem codes_among {pos : Pos} {cv : Value} : ∀ l : List Value, codeAmong pos l = some cv → cv ∈ codes l
  | .int _ _ :: .int _ _ :: c :: rest, h => by
    unfold codeAmong at h
    unfold codes
    split at h
    · cases h; exact .head _
    · exact .tail _ (codes_among rest h)
theorem codes_snoc {i j : Int} {t u : Tok} {c : Value} : ∀ l : List Value, TriplesOk l → codes (l ++ [.int i t, .int j u, c]) = codes l ++ [c]
  | [], _ => rfl
  | .int _ _ :: .int _ _ :: c :: rest, h => by
    show c :: codes (rest ++ _) = _
    rw [codes_snoc rest h]
    rfl
structure LamI where
  params : Arguments
  body : Expr
  scope : Scope
  qual : Str
  pm : Value
  cl : List (Str × Addr)
def LamI.obj (L : LamI) (c' : Addr) (ctv : Value) : Obj := PySem.W.kla_obj "<lambda>" L.qual L.params L.body L.scope L.cl L.pm c' ctv
def LamO (a : Addr) (o : Obj) : Heap → Prop := fun h => h.get? a = some o
def J1 (tabs : List Addr) (lq : List (Addr × Str)) (cls fns : List Addr) (lam : List LamI) : Ip where
  ext H k v := (k < cls.length ∧ ∃ a, v = .ref a ∧ H a = some (.ext (ErrO a (.ref (cls.getD k 0))))) ∨ (∃ f, cls.length ≤ k ∧ fns[k - cls.length]? = some f ∧ v = .ref f) ∨ ∃ L a c' ctv, cls.length + fns.length ≤ k ∧ lam[k - (cls.length + fns.length)]? = some L ∧ v = .ref a ∧ H a = some (.ext (LamO a (L.obj c' ctv))) ∧ H c' = some (.ext (CodeO c' L.qual))
  mono hi h := h.elim (fun ⟨l, a, e, x⟩ => .inl ⟨l, a, e, hi _ _ x rfl⟩) fun h => .inr (h.elim .inl fun ⟨L, a, c', ctv, l, e1, e2, x, y⟩ => .inr ⟨L, a, c', ctv, l, e1, e2, hi _ _ x rfl, hi _ _ y rfl⟩)
  tabs := tabs
  cls k := .ref (cls.getD k 0)
  tok P ps H := ∀ qual, lq.lookup P = some qual → ∀ cv ∈ codes ps.toList, ∃ c, cv = .ref c ∧ H c = some (.ext (CodeO c qual))
  tmono hi h qual e cv m := let ⟨c, e1, x⟩ := h qual e cv m; ⟨c, e1, hi _ _ x rfl⟩
  tzero := fun qual e cv m => nomatch m
  free P := lq.lookup P = none
  tfree h ps H qual e := by rw [h] at e; cases e
section
variable {X : Cx} {pins : List (Addr × Obj)} {σ : L2.St} {H : Hp} {s : Shared}
theorem track {a : Addr} {o : HO} (I : Inv X pins σ H s) (hn : H a = none) (old : ∀ b u, X.s_0.heap.get? b = some u → b ≠ a) (hL : a ≠ X.env.locals) (hc : ∀ x c, X.env.cells.lookup x = some c → c ≠ a) (hp : ∀ p ∈ X.pn ++ pins, p.1 ≠ a)
    (ok : ObjOk X.prog X.w (upd H a o) s.heap a o) : Inv X pins σ (upd H a o) s := by
  refine ⟨I.ok, I.os, I.bare, ⟨I.base.keep, I.base.slot, fun b u e n x => ?_, I.base.there, fun b xs e => ?_, fun b u v e => ?_, fun b ps e => ?_⟩, I.loc, I.cell, ?_, fun x c e => ?_, fun p m => ?_, fun b u e => ?_, I.len⟩
  · rw [upd_ne (old b u e)]; exact I.base.free b u e n x
  · have := I.base.tups b xs e
    rw [upd_ne (ne_of_none this hn)]; exact this
  · have := I.base.frzs b u v e
    rw [upd_ne (ne_of_none this hn)]; exact this
  · obtain ⟨more, this⟩ := I.base.tbls b ps e
    exact ⟨more, by rw [upd_ne (ne_of_none this hn)]; exact this⟩
  · rw [upd_ne (Ne.symm hL)]; exact I.free
  · rw [upd_ne (hc x c e)]; exact I.freeC x c e
  · obtain ⟨e1, e2, e3⟩ := I.pin p m
    exact ⟨e1, by rw [upd_ne (hp p m)]; exact e2, e3⟩
  · by_cases hb : b = a
    · subst hb
      rw [upd_same] at e
      cases e
      exact ok
    · rw [upd_ne hb] at e
      exact (I.hok b u e).stay (fun _ _ _ q => q) (fun c q => by rw [upd_ne (ne_of_none q hn)]; exact q) fun c xs q => by rw [upd_ne (ne_of_none q hn)]; exact q
theorem track_new {a : Addr} {o : HO} {s0 : Shared} {H0 : Hp} (I0 : Inv X pins σ H0 s0) (I : Inv X pins σ H s) (hn : H a = none) (h0 : s0.heap.objs.size ≤ a) (ok : ObjOk X.prog X.w (upd H a o) s.heap a o) : Inv X pins σ (upd H a o) s := by
  refine track I hn (fun b u e z => absurd (Nat.lt_of_lt_of_le (Heap.lt_size e) (Nat.le_trans I0.sz (z.symm ▸ h0))) (Nat.lt_irrefl _)) (fun z => ?_) (fun x c e z => ?_) (fun p m z => ?_) ok
  · have := I0.lt
    rw [← z] at this
    exact absurd (Nat.lt_of_lt_of_le this h0) (Nat.lt_irrefl _)
  · obtain ⟨v, y⟩ := I0.cell x c e
    exact absurd (Nat.lt_of_lt_of_le y.lt (by rw [z]; exact h0)) (Nat.lt_irrefl _)
  · exact absurd (Nat.lt_of_lt_of_le (Heap.lt_size (I0.pin p m).1) (by rw [z]; exact h0)) (Nat.lt_irrefl _)
theorem lam_make {c P : Addr} {ps : Array Value} {pos : Pos} {params : Arguments} {body : Expr} {scope : Scope} {E : Value → Shared → Prop} {Q : Value → Shared → Prop} (I : Inv X pins σ H s) (hcode : X.env.code = .ref c) (hcd : SG.CodeHd X.base c P) (hbm : SG.Bm X.base X.mg)
    (hP : H P = some (.tbl ps)) (ht : TriplesOk ps.toList) (hl : ∀ cv ∈ codes ps.toList, ∃ c, cv = .ref c ∧ H c = some (.ext (CodeO c (X.env.qual ++ "<lambda>")))) (hfr : ∀ y ∈ scope.names, y.2 = .free → ∃ c, X.env.cells.lookup y.1 = some c) (hdef : defaultsOf params X.env = ([], []))
    (hQ : ∀ a c' ctv H' s', s.heap.objs.size ≤ a → Inv X pins σ H' s' → s'.heap.get? a = some (PySem.W.kla_obj "<lambda>" (X.env.qual ++ "<lambda>") params body scope (cloFrom X.env.cells scope.names []) ((X.mg "__name__").getD .none) c' ctv) → H' a = none → H' c' = some (.ext (CodeO c' (X.env.qual ++ "<lambda>"))) →
      (H' = H ∨ H c' = none ∧ H' = upd (upd H P (.tbl (ps ++ #[rawInt pos.line, rawInt pos.col, .ref c']))) c' (.ext (CodeO c' (X.env.qual ++ "<lambda>"))) ∧ TriplesOk (ps ++ #[rawInt pos.line, rawInt pos.col, .ref c']).toList) → Q (.ref a) s') :
    wpAny (model X.prog X.w) X.A (eval (.Lambda params body scope pos) X.env) Q E s := by
  have hgs : s.heap.Ns mainGlobals X.mg := I.mod.glob.keeps I.bk
  have hop : s.heap.get? P = some (PySem.W.tabObj ps) := I.hok P _ hP
  have hC : PySem.W.CodeHd s.heap c P := hcd.keeps I.bk
  have hgP : mainGlobals ≠ P := fun z => by
    obtain ⟨o, es, ep, e, d, _⟩ := hgs
    rw [z, hop] at e; cases e; cases d
  have hB : s.heap.BuiltinsAt X.mg P := by
    obtain ⟨bm, ob, b1, b2, b3, b4, b5, b6⟩ := hbm
    have b3' := I.bk _ _ b3
    refine ⟨bm, ob, b1, b2, fun z => ?_, fun z => ?_, b3', b4, b5, b6⟩
    · obtain ⟨o, es, ep, e, d, _⟩ := hgs
      rw [z, e] at b3'; cases b3'; rw [d] at b6; cases b6
    · rw [z, hop] at b3'; cases b3'; cases b4
  refine PySem.W.kla_eval hdef ?_
  cases hnf : codeAmong pos ps.toList with
  | some cv =>
    obtain ⟨c', rfl, hc'⟩ := hl cv (codes_among _ hnf)
    refine PySem.W.kla_makeFunctionHit (closure_ok hfr) I.ok.glob hgs hcode hC hop ht hnf hB fun ctv h' tk hk hsz => ?_
    refine hQ h'.objs.size c' ctv H _ hsz (I.kept (t' := tk) fun b u e => Heap.get?_push_of_some _ (hk b u e)) (Heap.get?_push_size _ rfl) (I.hok.fresh hsz) hc' (.inl rfl)
  | none =>
    refine PySem.W.kla_makeFunction (closure_ok hfr) I.ok.glob hgs hcode hC hop ht hnf hgP hB fun c' ctv h' tk hx hge hlt hrec htb => ?_
    have e1 : (ps ++ #[rawInt pos.line, rawInt pos.col, Value.ref c']).toList = ps.toList ++ [rawInt pos.line, rawInt pos.col, .ref c'] := by simp
    have I1 := SG.table (more := #[rawInt pos.line, rawInt pos.col, .ref c']) (t' := tk) (h' := h'.push (PySem.W.kla_obj "<lambda>" (X.env.qual ++ "<lambda>") params body scope (cloFrom X.env.cells scope.names []) ((X.mg "__name__").getD .none) c' ctv)) I hP (fun b u hb e => Heap.get?_push_of_some _ (hx b u hb e)) (Heap.get?_push_of_some _ htb)
    have hcn : H c' = none := I.hok.fresh hge
    have hcP : c' ≠ P := fun z => by rw [z, hP] at hcn; cases hcn
    have hsz : s.heap.objs.size ≤ h'.objs.size := Nat.le_of_lt (Nat.lt_of_le_of_lt hge hlt)
    have han : H h'.objs.size = none := I.hok.fresh hsz
    have I2 := track_new (a := c') (o := .ext (CodeO c' (X.env.qual ++ "<lambda>"))) I I1 (by rw [upd_ne hcP]; exact hcn) hge ⟨(by
      obtain ⟨o, vs, t, q1, q2, q3⟩ := rec_codeO hrec
      exact ⟨o, vs, t, Heap.get?_push_of_some _ q1, q2, q3⟩), (by
      obtain ⟨o, vs, t, q1, q2, q3⟩ := rec_codeO hrec
      exact ⟨o, Heap.get?_push_of_some _ q1⟩), fun h1 h2 ⟨o, vs, t, q1, q2, q3⟩ k => ⟨o, vs, t, k o q1, q2, q3⟩⟩
    refine hQ h'.objs.size c' ctv _ _ hsz I2 (Heap.get?_push_size _ rfl) ?_ upd_same (.inr ⟨hcn, rfl, by rw [e1]; exact TriplesOk_snoc _ _ _ _ ht⟩)
    rw [upd_ne (Nat.ne_of_gt hlt), upd_ne]
    · exact han
    · intro z; rw [z, hP] at han; cases han
end
end SX
set_option Elab.async false
set_option linter.all false
set_option maxRecDepth 100000
set_option maxHeartbeats 4000000
namespace SX
open PySem PySem.Spec L2 SH
def lamCx (W : Cx) (N : List Str) (s : Shared) (H : Hp) (env : PySem.Env) (E : XK) : Cx :=
  { W with A := W.A.deeper env, N := N, s_0 := s, H_0 := H, env := env, outer := W.stack, stack := env :: W.stack, ex := [], fn := (fun _ => false), calm := true, pn := [], xe := fun e s' => wpAny (model W.prog W.w) (W.A.deeper env) (leaving env e) (fun _ s'' => CXe W.prog W.w W.stack H s E e s'') (fun e' s'' => CXe W.prog W.w W.stack H s E e' s'') s' }
theorem lv_lam {W : Cx} {N : List Str} {s : Shared} {H : Hp} {env : PySem.Env} {E : XK} (hf : env.frame = some env.locals) : Lv (lamCx W N s H env E) E := ⟨rfl, rfl, hf, rfl⟩
structure LamSc (scope : Scope) : Prop where
  co : scope.isCoroutine = false
  gen : scope.isGenerator = false
  kind : scope.kind = .function
  nc : ∀ y ∈ scope.names, y.2 ≠ .cell
  nl : ∀ y ∈ scope.names, y.2 ≠ .local
structure Cap (N : List Str) (scope : Scope) (cl : List (Str × Addr)) (σY : L2.St) (H : Hp) (h : Heap) : Prop where
  cell : ∀ y c, cl.lookup y = some c → H c = none ∧ ∃ v, h.IsCell c v
  inj : ∀ y z c, cl.lookup y = some c → cl.lookup z = some c → y = z
  has : ∀ y, scope.names.lookup y = some .free → ∃ c, cl.lookup y = some c
  val : ∀ (i : Nat) (x : Str) (v : V), N[i]? = some x → σY[i]? = some (some v) → scope.names.lookup x = some .free → ∃ u c, RelV v u ∧ cl.lookup x = some c ∧ h.IsCell c (some u)
  len : σY.length = N.length
section
variable {W : Cx} {pins : List (Addr × Obj)} {σ σY : L2.St} {H : Hp} {s : Shared} {N : List Str} {qual : Str} {scope : Scope} {a c' : Addr} {cl : List (Str × Addr)} {E : XK}
theorem isCell_keeps {h h' : Heap} {c : Addr} {v : Option Value} (k : ∀ b o, h.get? b = some o → h'.get? b = some o) (x : h.IsCell c v) : h'.IsCell c v := let ⟨o, e, d⟩ := x; ⟨o, k _ _ e, d⟩
theorem lam_start {h1 : Heap} {tk : Nat} (I : Inv W pins σ H s) (hca : W.A.handled = none) (S : LamSc scope) (C : Cap N scope cl σY H s.heap) {m0 : Str → Option Value} (hns : h1.Ns s.heap.objs.size m0) (hk : ∀ b o, s.heap.get? b = some o → h1.get? b = some o) :
    Inv (lamCx W N s H (PySem.W.envX qual scope s.heap.objs.size a (.ref c') cl) E) [] σY H { s with heap := h1, toks := tk } := by
  have kindOf : ∀ y, (PySem.W.envX qual scope s.heap.objs.size a (.ref c') cl).kindOf y = scope.names.lookup y := fun y => rfl
  refine ⟨⟨I.ok.mod, S.kind, rfl, rfl, Nat.le_refl _, C.inj, fun y hy => ?_, fun y c z _ => absurd z Bool.false_ne_true, fun _ => hca, Around.frames_deeper I.ok.frames, .inr ⟨rfl, rfl⟩, fun b z => absurd (show b ∈ ([] : List Addr) from z) (by simp), I.bs, Nat.le_trans I.ok.bsz I.sz, fun b _ _ z => absurd (show b ∈ ([] : List Addr) from z) (by simp), fun b z => absurd (show b ∈ ([] : List Addr) from z) (by simp), I.stack, I.stkFree⟩,
    rfl, I.bare, Un.kept hk, ⟨m0, hns, fun i x v e1 e2 e3 => ?_⟩, fun y c e => ?_, I.hok.fresh (Nat.le_refl _), fun y c e => (C.cell y c e).1, fun p hp => absurd (show p ∈ ([] : List (Addr × Obj)) from hp) (by simp), I.hok.kept hk, C.len⟩
  · have hy : scope.names.lookup y = some .cell ∨ scope.names.lookup y = some .free := hy
    rcases hy with hy | hy
    · exact absurd rfl (S.nc _ (PySem.mem_of_lookup hy))
    · exact C.has y hy
  · have e3 : scope.names.lookup x = some .local ∨ scope.names.lookup x = some .cell ∨ scope.names.lookup x = some .free := e3
    rcases e3 with z | z | z
    · exact absurd rfl (S.nl _ (PySem.mem_of_lookup z))
    · exact absurd rfl (S.nc _ (PySem.mem_of_lookup z))
    · obtain ⟨u, c, r, l, ic⟩ := C.val i x v e1 e2 z
      exact ⟨u, r, .inr ⟨.inr z, c, l, isCell_keeps hk ic⟩⟩
  · obtain ⟨v, ic⟩ := (C.cell y c e).2
    exact ⟨v, isCell_keeps hk ic⟩
theorem lam_call {nm : Str} {params : Arguments} {body : Expr} {pm ctv : Value} {t : TE} {Q : VK} {k : Nat} (I : Inv W pins σ H s) (hr : Room k W.A) (S : LamSc scope) (C : Cap N scope cl σY H s.heap) (ho : s.heap.get? a = some (PySem.W.kla_obj nm qual params body scope cl pm c' ctv))
    (hcd : s.heap.CodeRec (.ref c') qual) (hb : bindArgs (PySem.W.kla_fn nm qual params body scope cl pm (.ref c') ctv) ⟨[], []⟩ = pure [])
    (hbody : PE (lamCx W N s H (PySem.W.envX qual scope s.heap.objs.size a (.ref c') cl) E) body t) (ht : t σY H Q) :
    codeAny (model W.prog W.w) W.A (.call (.ref a) ⟨[], []⟩) (CR (CXe W.prog W.w) W.stack W.prog W.w H s Q E) s := by
  refine PySem.W.kla_callFunE hr.depth ho rfl S.co S.gen rfl hcd ?_
  rw [hb]
  refine wpAny_pure (wpAny_newFunctionEnv S.nc (fun _ z => nomatch z) (fun h1 hns hsb => ⟨I.nolimit.fresh _ hsb, ?_⟩) S.kind)
  have hk : ∀ b o, s.heap.get? b = some o → h1.get? b = some o := fun b o e => hsb.extBut b o (Nat.ne_of_lt (Heap.lt_size e)) (Heap.get?_push_of_some _ e)
  show codeAny _ _ (.expr body (PySem.W.envX qual scope s.heap.objs.size a (.ref c') cl)) _ _
  refine PySem.W.kla_codeExpr (wpAny_mono (hbody [] _ σY H Q (lam_start I hr.hd S C hns hk) ht) (fun v s' h => ?_) fun _ _ y => y)
  obtain ⟨v', H', J, r, q⟩ := h
  exact ⟨v', H', J.os, J.bare, J.base, J.hok, r, q⟩
end
end SX
set_option Elab.async false
set_option linter.all false
set_option maxRecDepth 100000
set_option maxHeartbeats 4000000
namespace SX
open PySem PySem.Spec L2 SH
section
variable {M : Model} {A : Around} {E : Value → Shared → Prop}
variable {nm q : Str} {C N : Addr} {bs bm : List Value} {hdct : Bool} {sn : List Str} {sub : List Value} {ab : Bool} {col : Option Bool} {dd : Option Addr} {k0 k1 k2 k3 k5 : Option Value} {newId : String}
variable {nm' q' : Str} {C' N' : Addr} {bs' bm' : List Value} {hdct' : Bool} {sn' : List Str} {sub' : List Value} {ab' : Bool} {col' : Option Bool} {dd' : Option Addr} {k0' k1' k2' k3' k5' : Option Value} {newId' : String}
theorem exc_under {h : Heap} {g : Array GenState} {d : Drawn} {t : Nat} {os : OsState} {e : Addr} {oe : Obj} {Q : Bool → Shared → Prop}
    (gC : h.get? C = some (excClassObj nm q C N bs bm hdct sn sub ab col dd k0 k1 k2 k3 k5 newId)) (gC' : h.get? C' = some (excClassObj nm' q' C' N' bs' bm' hdct' sn' sub' ab' col' dd' k0' k1' k2' k3' k5' newId'))
    (ge : h.get? e = some oe) (ecls : oe.cls = .ref C) (hin : (Value.ref C :: bm).contains (.ref C') = true) (hb : bm'.contains (.type "BaseException") = true) (hq : Q true ⟨h, g, d, t, os⟩) : wpAny M A (excMatches (.ref e) (.ref C')) Q E ⟨h, g, d, t, os⟩ := by
  have f := tc_notTuple
  have c1 : (Value.ref C' :: bm').contains (.type "BaseException") = true := by rw [List.contains_cons, hb, Bool.or_true]
  unfold excMatches
  repeat (first | (with_reducible refine wpAny_loadPart_at ge ?_; rw [ecls]) | with_reducible refine wpAny_loadPart_at gC' ?_ | (with_reducible refine wpAny_isSubtype_exc gC' ?_; rw [c1]) | (with_reducible refine wpAny_isSubtype_exc gC ?_; rw [hin]) | wp_step)
  exact hq
end
def underIn (K : PySem.W.Frag) (C C' : Addr) : Bool := match K.lookup C with
  | some ⟨_, _, .cls cd, _⟩ => cd.mro.contains (.ref C')
  | _ => false
section
variable {X : Cx} {pins : List (Addr × Obj)} {σ : L2.St} {H H1 : Hp} {s s1 : Shared} {B : Heap}
theorem fly_inv {h : Heap} {tk : Nat} (I : Inv X pins σ H s) (hos : s1.os = s.os) (hbare : PyProof.Rows.AllBare s1.gens) (un : Un (frs X.stack) [] H H1 s.heap s1.heap) (hok : HOk X.prog X.w H1 s1.heap) (st : B.StaysIn s1.heap) (st' : B.StaysIn h) (ff : s1.heap.FunFrames B X.stack) (up : s1.heap.UpToSlots h)
    (tA : ∀ b o, s.heap.get? b = some o → b ∉ frs X.stack → ∃ u, B.get? b = some u) (tB : ∀ b o, H1 b = some o → ∃ u, B.get? b = some u) : Inv X pins σ H1 { s1 with heap := h, toks := tk } := by
  refine I.call' hos ⟨fun b o e n hb _ => ?_, fun b o e n hb _ => ?_, un.free, fun b o e _ => ?_, un.tups, un.frzs, un.tbls⟩ (hok_stays hok st st' tB) hbare (fun b z => nomatch z)
  · have e1 := un.keep b o e n hb (fun z => nomatch z)
    obtain ⟨u, hu⟩ := tA b o e hb
    have := st b u hu
    rw [e1] at this
    cases this
    exact st' b _ hu
  · obtain ⟨sl, e1⟩ := un.slot b o e n hb (fun z => nomatch z)
    obtain ⟨_, o2, e2, nf⟩ := ff.mem hb
    rw [e1] at e2
    cases e2
    obtain ⟨sl', e3⟩ := up b _ e1 nf
    exact ⟨sl', e3⟩
  · by_cases hb : b ∈ frs X.stack
    · obtain ⟨_, o2, e2, nf⟩ := ff.mem hb
      obtain ⟨sl', e3⟩ := up b _ e2 nf
      exact ⟨_, e3⟩
    · obtain ⟨u, hu⟩ := tA b o e hb
      exact ⟨u, st' b u hu⟩
theorem gone_ok {M : Model} {A : Around} {E : Value → Shared → Prop} {Q : Unit → Shared → Prop} {i : Nat} {x : Str} {pos : Pos} (I : Inv X pins σ H s) (hN : X.N.Nodup) (hi : X.N[i]? = some x) (hx : X.env.scope.names.lookup x = some .local) (h : ∀ s', Inv X pins (σ.set i none) H s' → Q () s') :
    wpAny M A (do bindName X.env x .none; unbindBehindTheSuite X.env x pos) Q E s := by
  obtain ⟨m, hn, hl⟩ := id I.loc
  have hcls : (X.env.scope.kind == .class || (X.env.scope.kind == .module && X.env.locals != X.env.globals)) = false := by rw [I.ok.kind]; rfl
  refine wpAny_nameGoes_keeps hx hn hcls fun h' v hn' hs => h _ ?_
  have cne := I.cne
  have lt : ∀ b o, X.s_0.heap.get? b = some o → b ≠ X.env.locals := fun b o e => Nat.ne_of_lt (Nat.lt_of_lt_of_le (Heap.lt_size e) I.ok.above)
  refine ⟨I.ok, I.os, I.bare, ⟨fun b o e n hb hx => (hs.2 b (lt b o e)).trans (I.base.keep b o e n hb hx), fun b o e n hb hx => ?_, I.base.free, fun b o e hx => ?_, I.base.tups, I.base.frzs, I.base.tbls⟩, ⟨_, hn', fun j y w e1 e2 e3 => ?_⟩, fun y c e => ?_, I.free, I.freeC, fun p hp => ?_, fun b ob e => ?_, by rw [List.length_set]; exact I.len⟩
  · obtain ⟨sl, e1⟩ := I.base.slot b o e n hb hx
    exact ⟨sl, (hs.2 b (lt b o e)).trans e1⟩
  · obtain ⟨o', e1⟩ := I.base.there b o e hx
    exact ⟨o', (hs.2 b (lt b o e)).trans e1⟩
  · by_cases hj : j = i
    · subst hj
      rw [List.getElem?_set] at e2
      split at e2
      · split at e2 <;> cases e2
      · rename_i z; exact absurd rfl z
    · rw [List.getElem?_set_ne (Ne.symm hj)] at e2
      obtain ⟨u, r, q⟩ := hl j y w e1 e2 e3
      refine ⟨u, r, ?_⟩
      rcases q with ⟨k, e⟩ | ⟨k, c, e, z⟩
      · refine .inl ⟨k, ?_⟩
        have : y ≠ x := fun e => hj (nodup_ix hN e1 (e ▸ hi))
        simp [this, e]
      · exact .inr ⟨k, c, e, z.sameBut hs (cne y c e)⟩
  · obtain ⟨w, z⟩ := I.cell y c e
    exact ⟨w, z.sameBut hs (cne y c e)⟩
  · obtain ⟨e, n, ne, nf, d⟩ := I.pin p hp
    exact ⟨(hs.2 p.1 ne).trans e, n, ne, nf, d⟩
  · refine (I.hok b ob e).stay (fun c w hc q => (hs.2 c ?_).trans q) (fun _ q => q) fun _ _ q => q
    rintro rfl
    rcases hc with rfl | hc
    · rw [I.free] at e; cases e
    · rw [I.free] at hc; cases hc
end
end SX
set_option Elab.async false
set_option linter.all false
set_option maxRecDepth 100000
set_option maxHeartbeats 4000000
namespace SX
open PySem PySem.Spec L2 SH
abbrev markCx (X : Cx) (e : Value) (xe : Value → Shared → Prop) : Cx := { X with A := X.A.mark (some e), calm := false, xe := xe }
section
variable {X : Cx} {pins : List (Addr × Obj)} {σ : L2.St} {H H1 : Hp} {s s1 : Shared} {B : Heap}
theorem inv_mark (I : Inv X pins σ H s) (e : Value) (xe : Value → Shared → Prop) : Inv (markCx X e xe) pins σ H s :=
  ⟨⟨I.ok.mod, I.ok.kind, I.ok.glob, I.ok.blt, I.ok.above, I.ok.inj, I.ok.has, I.ok.cab, fun z => absurd z Bool.false_ne_true, I.ok.frames, I.ok.stk, I.ok.exf, I.ok.bs, I.ok.bsz, I.ok.noex, I.ok.exfs, I.ok.funs, I.ok.frf⟩, I.os, I.bare, I.base, I.loc, I.cell, I.free, I.freeC, I.pin, I.hok, I.len⟩
theorem inv_unmark {e : Value} {xe : Value → Shared → Prop} (hc : X.Ok) (I : Inv (markCx X e xe) pins σ H s) : Inv X pins σ H s := ⟨hc, I.os, I.bare, I.base, I.loc, I.cell, I.free, I.freeC, I.pin, I.hok, I.len⟩
theorem catch_at {ea C CH : Addr} {a0 : Value} {cn en tn : Str} {np tp ep ap hp : Pos} {ie it : Nat} {E : Value → Shared → Prop} {Q : Flow → Shared → Prop} (I : Inv X pins σ H s) (hst : X.stack = X.env :: X.outer) (hfr : X.env.frame = some X.env.locals) (hex : X.ex = []) (hN : X.N.Nodup)
    (hos : s1.os = s.os) (hbare : PyProof.Rows.AllBare s1.gens) (un : Un (frs X.stack) [] H H1 s.heap s1.heap) (hok : HOk X.prog X.w H1 s1.heap) (fl : Heap.FlyingW B X.stack ea (.ref C) a0 s1.heap)
    (tA : ∀ b o, s.heap.get? b = some o → b ∉ frs X.stack → ∃ u, B.get? b = some u) (tB : ∀ b o, H1 b = some o → ∃ u, B.get? b = some u)
    (gH : Gl X cn) (mH : X.mg cn = some (.ref CH)) (qH : PySem.W.excIn X.K CH bmV newV = true) (qC : PySem.W.excIn X.K C bmV newV = true) (hu : underIn X.K C CH = true)
    (hie : X.N[ie]? = some en) (hit : X.N[it]? = some tn) (hen : X.env.scope.names.lookup en = some .local) (htn : X.env.scope.names.lookup tn = some .local) (hdb : (cn == ("__debug__" : Str)) = false) (hd1 : (en == ("__debug__" : Str)) = false) (hd2 : (en == ("__classdict__" : Str)) = false)
    (hs : swapsWith (.Name en ep) (some (.Name tn tp)) ap.line X.env = pure false)
    (hQ : H1 ea = none → ∀ s', Inv X pins (((σ.set ie (some (.ref ea))).set it (some (.ref ea))).set ie none) (upd H1 ea (.ext (ErrO ea (.ref C)))) s' → Q .next s') :
    wpAny (model X.prog X.w) X.A (noteFrame (.ref ea) X.env) (fun _ s₂ => wpAny (model X.prog X.w) X.A (setFlight (.ref ea) none) (fun _ s₃ =>
      wpAny (model X.prog X.w) X.A (handleBy (.ref ea) X.env [.ExceptHandler (some (.Name cn np)) (some en) [.Assign [.Name tn tp] (.Name en ep) ap] hp]) Q E s₃) E s₂) E s1 := by
  have hfs : X.A.frames = some (X.env :: X.outer) := by rw [← hst]; exact I.ok.frames
  have fl0 := fl
  rw [hst] at fl
  have ff := fl0.2.2.1
  have hBe : B.get? ea = none := fl0.2.1
  have hn1 : H1 ea = none := by
    cases q : H1 ea with
    | none => rfl
    | some o =>
      obtain ⟨u, hu⟩ := tB ea o q
      rw [hBe] at hu; cases hu
  refine wpAny_looks_onW (base := B) (L := X.env.locals) hfs hfr fl fun h4 held4 up4 => ?_
  refine wpAny_landsW held4 fun h5 fl5 up5 => ?_
  have up := up4.trans up5
  have I5 : Inv X pins σ H1 { s1 with heap := h5, toks := s1.toks } := fly_inv I hos hbare un hok fl0.1 fl5.1 ff up tA tB
  obtain ⟨oe, ge, ecls⟩ := fl5.there
  refine wpAny_handleBy_cons (codeAny_handlers_test ?_) (by intro z; cases z)
  refine ld_glob (X := markCx X (.ref ea) fun _ _ => False) (inv_mark I5 (.ref ea) _) gH mH ?_ hdb
  obtain ⟨bm, N, nm, qn, bs, hdct, sn, sub, ab, col, dd, k0, k1, k2, k3, k5, mN, gC, gN, gi, gT, lk⟩ := cls_at I5.kIn qC
  obtain ⟨bm', N', nm', qn', bs', hdct', sn', sub', ab', col', dd', k0', k1', k2', k3', k5', mN', gC', gN', gi', gT', lk'⟩ := cls_at I5.kIn qH
  have hin : (Value.ref C :: bm).contains (.ref CH) = true := by
    unfold underIn at hu
    rw [lk] at hu
    exact hu
  refine exc_under gC gC' ge ecls hin (gT'.hasType PySem.F.excBase_ValueError.hasBase) ?_
  refine codeAny_handlers_suite_as ?_
  refine PyProof.Rows.lands_againW fl5 fun h6 fl6 up6 => ?_
  have I6 : Inv X pins σ H1 { s1 with heap := h6, toks := s1.toks } := fly_inv I hos hbare un hok fl0.1 fl6.1 ff (up.trans up6) tA tB
  obtain ⟨oe6, vs6, ge6, ecls6, ed6, _⟩ := fl6.first
  have notin : ea ∉ frs X.stack := fun z => by
    obtain ⟨oe1, vs1, g1, _, d1, _⟩ := fl0.first
    obtain ⟨_, o2, g2, nf⟩ := ff.mem z
    rw [g1] at g2; cases g2
    exact nf vs1 d1
  have live : ∀ b o, s.heap.get? b = some o → b ∉ frs X.stack → b ≠ ea := fun b o e hb z => by
    obtain ⟨u, hu⟩ := tA b o e hb
    rw [z, hBe] at hu; cases hu
  have It := track (a := ea) (o := .ext (ErrO ea (.ref C))) I6 hn1 (fun b u e z => by
      obtain ⟨o1, e1⟩ := I.base.there b u e (by rw [hex]; exact fun y => nomatch y)
      exact live b o1 e1 (z.symm ▸ notin) z) (fun z => notin (by rw [hst, frs_cons hfr, z]; exact .head _)) (fun y c e z => by
      obtain ⟨v, o, e1, d1⟩ := I.cell y c e
      exact live c o e1 (z.symm ▸ notin) z) (fun p m z => live p.1 p.2 (I.pin p m).1 (z.symm ▸ notin) z)
    ⟨⟨oe6, vs6, ge6, ecls6, ed6⟩, ⟨oe6, ge6⟩, fun h1 h2 ⟨o, vs, q1, q2, q3⟩ k => ⟨o, vs, k o q1, q2, q3⟩⟩
  refine store_ok (X := markCx X (.ref ea) fun _ _ => False) (inv_mark It (.ref ea) _) hN hie (.inl hen) (v := .ref ea) rfl (fun s7 I7 => ?_) (.inr hen)
  have w1 := pss_cons (X := markCx X (.ref ea) fun _ _ => False) (ps_set (te := tVar ie) (pos := ap) hN hit (.inl htn) (pe_var (pos := ep) hie (.inl hen) hd1 hd2) hs (.inr htn)) pss_nil
  refine wpAny_mono (w1 pins s7 _ _ { nx := fun σ' H' => σ' = (σ.set ie (some (.ref ea))).set it (some (.ref ea)) ∧ H' = upd H1 ea (.ext (ErrO ea (.ref C))), rt := fun _ _ => False } (inv_mark (inv_unmark I.ok I7) (.ref ea) _) ⟨.ref ea, ?_, ?_⟩) (fun f s8 h8 => ?_) fun _ _ z => z.elim
  · exact List.getElem?_set_self (by rw [I.len]; exact (List.getElem?_eq_some_iff.mp hie).1)
  · exact ⟨rfl, rfl⟩
  · cases f with
    | next =>
      obtain ⟨σ', H', I8, rfl, rfl⟩ := h8
      exact gone_ok (inv_unmark I.ok I8) hN hie hen fun s9 I9 => hQ hn1 s9 I9
    | ret u => obtain ⟨_, _, _, _, _, z⟩ := h8; exact z.elim
    | brk => obtain ⟨_, _, _, z⟩ := h8; exact z.elim
    | cont => obtain ⟨_, _, _, z⟩ := h8; exact z.elim
end
end SX
set_option Elab.async false
set_option linter.all false
set_option maxRecDepth 100000
set_option maxHeartbeats 4000000
namespace SX
open PySem PySem.Spec L2 SH
structure LamAt (N : List Str) (params : Arguments) (body : Expr) (scope : Scope) (qual : Str) (pm : Value) (cl : List (Str × Addr)) (a c' : Addr) (ctv : Value) (σY : L2.St) (H : Hp) (h : Heap) (fs : List Addr) : Prop where
  ob : (h.get? a = some (PySem.W.kla_obj "<lambda>" qual params body scope cl pm c' ctv) ∧ H a = none ∧ a ∉ fs) ∨ H a = some (.ext (LamO a (PySem.W.kla_obj "<lambda>" qual params body scope cl pm c' ctv)))
  co : H c' = some (.ext (CodeO c' qual))
  cap : Cap N scope cl σY H h
  cf : ∀ y c, cl.lookup y = some c → c ∉ fs
section
variable {N : List Str} {params : Arguments} {body : Expr} {scope : Scope} {qual : Str} {pm : Value} {cl : List (Str × Addr)} {a c' : Addr} {ctv : Value} {σY : L2.St} {H : Hp} {h h' : Heap} {fs : List Addr}
theorem LamAt.later (L : LamAt N params body scope qual pm cl a c' ctv σY H h fs) (u : Un fs [] H H h h') : LamAt N params body scope qual pm cl a c' ctv σY H h' fs := by
  have kc : ∀ {c : Addr} {v : Option Value}, H c = none → c ∉ fs → h.IsCell c v → h'.IsCell c v := fun hn hf ⟨o, e, d⟩ => ⟨o, u.keep _ o e hn hf (fun z => nomatch z), d⟩
  refine ⟨L.ob.elim (fun ⟨o, n, f⟩ => .inl ⟨u.keep _ _ o n f (fun z => nomatch z), n, f⟩) .inr, L.co, ⟨fun y c e => ⟨(L.cap.cell y c e).1, ?_⟩, L.cap.inj, L.cap.has, fun i x v e1 e2 e3 => ?_, L.cap.len⟩, L.cf⟩
  · obtain ⟨v, ic⟩ := (L.cap.cell y c e).2
    exact ⟨v, kc (L.cap.cell y c e).1 (L.cf y c e) ic⟩
  · obtain ⟨u, c, r, l, ic⟩ := L.cap.val i x v e1 e2 e3
    exact ⟨u, c, r, l, kc (L.cap.cell x c l).1 (L.cf x c l) ic⟩
end
section
variable {W : Cx} {E0 E1 : XK} {N : List Str} {params : Arguments} {body : Expr} {scope : Scope} {qual : Str} {pm : Value} {cl : List (Str × Addr)} {a c' : Addr} {ctv : Value} {σY σ : L2.St} {pins : List (Addr × Obj)} {s : Shared} {t : TE} {k i : Nat} {x : Str} {np cpos : Pos}
theorem pcall_lam {Q : VK} (V0 : Lv W E0) (I : Inv W pins σ W.H_0 s) (L : LamAt N params body scope qual pm cl a c' ctv σY W.H_0 W.s_0.heap W.fs) (S : LamSc scope)
    (hr : Room k W.A) (hi : W.N[i]? = some x) (hx : W.env.scope.names.lookup x = some .local) (hv : σ[i]? = some (some (.ref a)))
    (hb : ∀ pm cl c' ctv, bindArgs (PySem.W.kla_fn "<lambda>" qual params body scope cl pm (.ref c') ctv) ⟨[], []⟩ = pure [])
    (hbody : PE (lamCx W N s W.H_0 (PySem.W.envX qual scope s.heap.objs.size a (.ref c') cl) E1) body t) (ht : t σY W.H_0 Q) (hd : (x == ("__debug__" : Str)) = false) :
    wpAny (model W.prog W.w) W.A (eval (.Call (.Name x np) [] [] cpos) W.env) (EP W pins σ Q) (fun e s' => CXe W.prog W.w W.stack W.H_0 s E1 e s') s := by
  have ub := I.base
  rw [V0.ex] at ub
  have L1 := L.later ub
  have ob1 : s.heap.get? a = some (PySem.W.kla_obj "<lambda>" qual params body scope cl pm c' ctv) := L1.ob.elim (fun z => z.1) fun e => (I.hok _ _ e).1
  obtain ⟨m, hn, hl⟩ := I.loc
  obtain ⟨u, r, l⟩ := hl i x _ hi hv (.inl hx)
  obtain rfl : u = .ref a := r
  have hm : m x = some (.ref a) := by
    rcases l with ⟨_, z⟩ | ⟨z, _⟩
    · exact z
    · exact absurd (show W.env.scope.names.lookup x = some .cell ∨ W.env.scope.names.lookup x = some .free from z) (by rw [hx]; intro y; rcases y with y | y <;> cases y)
  refine wpAny_Call_Name_kw (wpAny_Name (wpAny_loadName_local I.ok.kind hx hn hm ?_) hd)
  refine PySem.W.callWith_F0 ⟨_, _, _, _, ob1⟩ (wpAny_call (codeAny_mono (lam_call I hr S L1.cap ob1 (codeO_rec (I.hok _ _ L1.co).1) (hb _ _ _ _) hbody ht) fun r s' hq => ?_))
  cases r with
  | error e => exact hq
  | ok fl =>
    cases fl with
    | ret u => exact I.after hq
    | next => exact False.elim hq
    | brk => exact False.elim hq
    | cont => exact False.elim hq
def caughtK (K : PySem.W.Frag) (CH : Addr) (σ : L2.St) (ie it : Nat) (D : Ends) : XK := fun cls _ H1 => ∃ C, cls = .ref C ∧ PySem.W.excIn K C bmV newV = true ∧ underIn K C CH = true ∧
  ∀ ea, H1 ea = none → D.nx (((σ.set ie (some (.ref ea))).set it (some (.ref ea))).set ie none) (upd H1 ea (.ext (ErrO ea (.ref C))))
theorem try_lam {D : Ends} {CH : Addr} {cn en tn : Str} {hnp tp ep ap hp p1 pos : Pos} {ie it : Nat} (V0 : Lv W E0) (hN : W.N.Nodup) (I : Inv W pins σ W.H_0 s) (L : LamAt N params body scope qual pm cl a c' ctv σY W.H_0 W.s_0.heap W.fs) (S : LamSc scope)
    (hr : Room k W.A) (hi : W.N[i]? = some x) (hx : W.env.scope.names.lookup x = some .local) (hv : σ[i]? = some (some (.ref a)))
    (hb : ∀ pm cl c' ctv, bindArgs (PySem.W.kla_fn "<lambda>" qual params body scope cl pm (.ref c') ctv) ⟨[], []⟩ = pure [])
    (hbody : PE (lamCx W N s W.H_0 (PySem.W.envX qual scope s.heap.objs.size a (.ref c') cl) (caughtK W.K CH σ ie it D)) body t) (ht : t σY W.H_0 fun _ H1 => D.nx σ H1) (hd : (x == ("__debug__" : Str)) = false)
    (gH : Gl W cn) (mH : W.mg cn = some (.ref CH)) (qH : PySem.W.excIn W.K CH bmV newV = true) (hie : W.N[ie]? = some en) (hit : W.N[it]? = some tn) (hen : W.env.scope.names.lookup en = some .local) (htn : W.env.scope.names.lookup tn = some .local)
    (hdb : (cn == ("__debug__" : Str)) = false) (hd1 : (en == ("__debug__" : Str)) = false) (hd2 : (en == ("__classdict__" : Str)) = false) (hs : swapsWith (.Name en ep) (some (.Name tn tp)) ap.line W.env = pure false) (hs1 : swapsWith (.Call (.Name x np) [] [] cpos) none p1.line W.env = pure false) :
    wpAny (model W.prog W.w) W.A (exec (.Try [.Expr (.Call (.Name x np) [] [] cpos) p1] [.ExceptHandler (some (.Name cn hnp)) (some en) [.Assign [.Name tn tp] (.Name en ep) ap] hp] [] [] pos) W.env) (SP W pins D) W.xe s := by
  refine wpAny_Try_except (wpAny_execs_cons (wpAny_Expr_any (wpAny_mono (pcall_lam V0 I L S hr hi hx hv hb hbody ht hd) (fun v s2 h2 => ?_) fun e s2 h2 => ?_) I.quiet hs1))
  · obtain ⟨v', H1, I1, _, q⟩ := h2
    exact wpAny_execs_nil (wpAny_execs_nil ⟨σ, H1, I1, q⟩)
  · obtain ⟨H1, ea, cls, a0, B, rfl, hos, hbare, un, hok, fl, tA, tB, C, rfl, qC, hu, hnx⟩ := h2
    exact catch_at I V0.st V0.fr V0.ex hN hos hbare un hok fl tA tB gH mH qH qC hu hie hit hen htn hdb hd1 hd2 hs fun hn s' I' => ⟨_, _, I', hnx ea hn⟩
end
end SX
set_option Elab.async false
set_option linter.all false
set_option maxRecDepth 100000
set_option maxHeartbeats 4000000
namespace SX
open PySem PySem.Spec L2 SH
section
variable {prog : Program} {w : World} {A : Around} {E : Value → Shared → Prop} {h : Heap} {g : Array GenState} {d : Drawn} {t : Nat} {os : OsState} {a : Addr} {o : Obj}
  {nm q : Str} {C N : Addr} {bs bm : List Value} {hdct : Bool} {sn : List Str} {sub : List Value} {ab : Bool} {col : Option Bool} {dd : Option Addr} {k0 k1 k2 k3 k5 : Option Value} {newId : String} {K : PySem.W.Frag}
theorem err_get {R : Result → Shared → Prop} (gC : h.get? C = some (excClassObj nm q C N bs bm hdct sn sub ab col dd k0 k1 k2 k3 k5 newId)) (T : OwnTail h bmV bm) (hx : h.get? a = some o) (hc : o.cls = .ref C) (hq : R (.ok (.ret (.ref C))) ⟨h, g, d, t, os⟩) :
    codeAny (model prog w) A (.call (.builtin "getset_descriptor.__get__") ⟨[.builtin "object.__class__", .ref a, .ref C], []⟩) R ⟨h, g, d, t, os⟩ := by
  have hT5 : (⟨h, g, d, t, os⟩ : Shared).TypeIs (.builtin "object.__class__") "getset_descriptor" := F.typeOf_object_class
  have hcO : (Value.ref C :: bm).contains (.type (".".intercalate ("object.__class__".cutAt '.').dropLast)) = true := by
    rw [F.owner_object_class, List.contains_cons, T.hasType (X := "object") (b := true) (by decide)]; rfl
  refine codeAny_call_builtin F.slot_gs_get.plain F.entry_gs_get (F.slot_gs_get.check _ _ _ _ _ _ _ _ hT5 (F.args_gs_get _ _ _) ?_)
  repeat (any_goals (first | assumption | (with_reducible refine wpAny_loadPart_at hx ?_; rw [hc]) | (with_reducible refine wpAny_isSubtype_exc gC ?_; rw [hcO]) | wp_step))
  refine ⟨Code.quiet_builtin _ (by decide +kernel), codeAny_builtin F.entry_object_class ?_⟩
  repeat (any_goals (first | assumption | (with_reducible refine wpAny_loadPart_at hx ?_; rw [hc]) | wp_step))
theorem err_entry {tk : Tok} {Q : Fin → Shared → Prop} (X : K.In h) (hcl : PySem.W.findIn K (.ref C) "__class__" = some (some (.builtin "object.__class__"))) (gC : h.get? C = some (excClassObj nm q C N bs bm hdct sn sub ab col dd k0 k1 k2 k3 k5 newId)) (T : OwnTail h bmV bm) (hx : h.get? a = some o) (hc : o.cls = .ref C)
    (hq : Q (.done (.ret (.ref C))) ⟨h, g, d, t, os⟩) : wpAny (model prog w) A (Builtin.«object.__getattribute__» ⟨[.ref a, .str "__class__" tk], []⟩) Q E ⟨h, g, d, t, os⟩ := by
  have hT5 : (⟨h, g, d, t, os⟩ : Shared).TypeIs (.builtin "object.__class__") "getset_descriptor" := F.typeOf_object_class
  have f5 := F.typeOf_object_class
  have f6 := F.slot_gs_get.lookup
  have f7 := F.slot_gs_set.lookup
  repeat (any_goals (first | assumption | (with_reducible refine wpAny_loadPart_at hx ?_; rw [hc]) | with_reducible refine (PySem.W.looks_findIn X hcl).at ?_ | wp_step))
  refine err_get gC T hx hc ?_
  repeat (any_goals (first | assumption | wp_step))
theorem err_check {M : Model} {nameV : Value} {Q : Unit → Shared → Prop} (gC : h.get? C = some (excClassObj nm q C N bs bm hdct sn sub ab col dd k0 k1 k2 k3 k5 newId)) (T : OwnTail h bmV bm) (hx : h.get? a = some o) (hc : o.cls = .ref C) (hq : Q () ⟨h, g, d, t, os⟩) :
    wpAny M A (checkBuiltinCall "BaseException.__getattribute__" ⟨[.ref a, nameV], []⟩) Q E ⟨h, g, d, t, os⟩ := by
  have e1 : builtinKind "BaseException.__getattribute__" = some .slot := by decide +kernel
  have e2 : splitId "BaseException.__getattribute__" = some ("BaseException", "__getattribute__") := by decide +kernel
  have e3 : (Value.ref C :: bm).contains (.type "BaseException") = true := by rw [List.contains_cons, T.hasType (X := "BaseException") (b := true) (by decide)]; rfl
  have e4 := F.args_bexc_ga (.ref a) nameV
  simp only [checkBuiltinCall, e1, e2]
  refine wpAny_bind ?_
  unfold isInstance
  repeat (first | (with_reducible refine wpAny_loadPart_at hx ?_; rw [hc]) | (with_reducible refine wpAny_isSubtype_exc gC ?_; rw [e3]) | wp_step)
  exact hq
theorem err_class {Q : Option Value → Shared → Prop} (X : K.In h) (hga : PySem.W.findIn K (.ref C) "__getattribute__" = some (some (.builtin "BaseException.__getattribute__"))) (hge : PySem.W.findIn K (.ref C) "__getattr__" = some none)
    (hcl : PySem.W.findIn K (.ref C) "__class__" = some (some (.builtin "object.__class__"))) (gC : h.get? C = some (excClassObj nm q C N bs bm hdct sn sub ab col dd k0 k1 k2 k3 k5 newId)) (T : OwnTail h bmV bm) (hx : h.get? a = some o) (hc : o.cls = .ref C)
    (hq : Q (some (.ref C)) ⟨h, g, d, t + 1, os⟩) : wpAny (model prog w) A (getAttr? (.ref a) "__class__") Q E ⟨h, g, d, t, os⟩ := by
  have f3 := PySem.F.attrBase_ValueError.ga.bind (.ref a)
  have hx2 : (Value.builtin "BaseException.__getattribute__" == Value.builtin "object.__getattribute__") = false := by decide +kernel
  have hx1 : (onTheHeap (Value.ref C) && Value.builtin "BaseException.__getattribute__" == Value.builtin "object.__getattribute__") = false := by rw [hx2]; rfl
  unfold getAttr? getAttrBy?
  repeat (any_goals (first | assumption | (with_reducible refine wpAny_loadPart_at hx ?_; rw [hc]) | with_reducible refine (PySem.W.looks_findIn X hga).at ?_ | with_reducible refine (PySem.W.looks_findIn X hge).at ?_ | wp_step))
  refine codeAny_call_builtin PySem.F.attrBase_ValueError.ga.plain F.entry_bexc_ga (err_check gC T hx hc (err_entry X hcl gC T hx hc ?_))
  repeat (any_goals (first | assumption | wp_step))
end
structure ErrC (K : PySem.W.Frag) (C : Addr) : Prop where
  ex : PySem.W.excIn K C bmV newV = true
  ga : PySem.W.findIn K (.ref C) "__getattribute__" = some (some (.builtin "BaseException.__getattribute__"))
  ge : PySem.W.findIn K (.ref C) "__getattr__" = some none
  cl : PySem.W.findIn K (.ref C) "__class__" = some (some (.builtin "object.__class__"))
theorem kit_err {K : PySem.W.Frag} {a C : Addr} (c : ErrC K C) : PySem.W.KitX K (.ref a) (.ref C) (ErrO a (.ref C)) where
  ty := fun M h X ⟨o, vs, e, ec, ed⟩ => by
    intro A Q E s k q
    unfold typeOf
    exact wpAny_bind (wpAny_loadPart (k _ _ e) (wpAny_pure (by rw [ec]; exact q)))
  it := fun M h X ⟨o, vs, e, ec, ed⟩ => by
    obtain ⟨bm, N, nm, qn, bs, hdct, sn, sub, ab, col, dd, k0, k1, k2, k3, k5, mN, gC, gN, gi, gT, lk⟩ := cls_at X c.ex
    intro A Q E s k q
    unfold isType loadHead
    exact wpAny_bind (wpAny_loadPart (k _ _ gC) (wpAny_pure q))
  ne := fun h tp dd' its n sl X htp => by
    obtain ⟨bm, N, nm, qn, bs, hdct, sn, sub, ab, col, dd, k0, k1, k2, k3, k5, mN, gC, gN, gi, gT, lk⟩ := cls_at X c.ex
    refine Bool.eq_false_iff.mpr fun q => ?_
    have e : C = tp := Value.ref.inj (beq_iff_eq.mp q)
    subst e
    rw [gC] at htp
    exact absurd (congrArg Obj.cls (Option.some.inj htp)) (by show ¬ (Value.type "type" = Value.type "tuple"); decide)
  ca := fun {prog w A E Q s} X ⟨o, vs, e, ec, ed⟩ k => by
    obtain ⟨bm, N, nm, qn, bs, hdct, sn, sub, ab, col, dd, k0, k1, k2, k3, k5, mN, gC, gN, gi, gT, lk⟩ := cls_at X c.ex
    obtain ⟨h, g, d, t, os⟩ := s
    exact err_class X c.ga c.ge c.cl gC gT e ec k
end SX
set_option Elab.async false
set_option linter.all false
set_option maxRecDepth 100000
set_option maxHeartbeats 4000000
namespace SX
open PySem PySem.Spec L2 SH
def eIs (n : Nat) (fe : Nat → Bool) (me : SH.Env → M D) : SH.Env → M D := fun ρ S => (me ρ S).bind fun d S1 => match d with
  | .ext c => if c < n then .ok (.bl (fe c)) S1 else .bad
  | .non => .ok (.bl false) S1
  | _ => .bad
section
variable {X : Cx} {E : XE} {tabs : List Addr} {lq : List (Addr × Str)} {cls fns : List Addr} {lam : List LamI} {e ec : Expr} {me : SH.Env → M D} {cv : V} {cu : Value} {fe : Nat → Bool} {p cpos : Pos}
theorem call_is : CallR X (.builtin "isinstance") (fun vs H Q => ∃ cv cu b, (∀ u, RelV cv u → u = cu) ∧ ((vs = [.non, cv] ∧ PySem.W.kitOne X.K (.type "NoneType") cu = some b ∧ Q (.bl b) H) ∨
    ∃ a C, vs = [.ref a, cv] ∧ H a = some (.ext (ErrO a (.ref C))) ∧ ErrC X.K C ∧ PySem.W.kitOne X.K (.ref C) cu = some b ∧ Q (.bl b) H)) := by
  intro pins s σ H vs us Q I r h
  obtain ⟨cv, cu, b, hcu, h | ⟨a, C, h1, h2, h3, h4, h5⟩⟩ := h
  · obtain ⟨rfl, h2, h3⟩ := h
    cases r with
    | cons r1 r2 =>
      cases r2 with
      | cons r3 r4 =>
        cases r4
        cases (show _ = Value.none from r1)
        cases hcu _ r3
        exact PySem.W.kia_one PySem.W.kitx_none I.kIn True.intro h2 (fun z => nomatch z) fun tk => ⟨.bl b, H, I.tok tk, rfl, h3⟩
  · subst h1
    cases r with
    | cons r1 r2 =>
      cases r2 with
      | cons r3 r4 =>
        cases r4
        cases (show _ = Value.ref a from r1)
        cases hcu _ r3
        exact PySem.W.kia_one (kit_err h3) I.kIn (I.hok a _ h2).1 h4 (fun z => nomatch z) fun tk => ⟨.bl b, H, I.tok tk, rfl, h5⟩
theorem e_is (hcv : PE X ec (tC cv)) (hcu : ∀ u, RelV cv u → u = cu) (hn : PySem.W.kitOne X.K (.type "NoneType") cu = some false) (he : ∀ c C, cls[c]? = some C → ErrC X.K C ∧ PySem.W.kitOne X.K (.ref C) cu = some (fe c))
    (ha : PE X e (tM (J1 tabs lq cls fns lam) X.K E me)) (hg : Gl X "isinstance") (hm : X.mg "isinstance" = none) (hst : starEach [e, ec] X.env = (false, eval e X.env) :: starEach [ec] X.env := by rfl) (hst2 : starEach [ec] X.env = (false, eval ec X.env) :: starEach [] X.env := by rfl) (hpl : (backTo cpos (starEach [ec] X.env)).any (·.1) = false := by rfl) :
    PE X (.Call (.Name "isinstance" p) [e, ec] [] cpos) (tM (J1 tabs lq cls fns lam) X.K E (eIs cls.length fe me)) := by
  refine PE.imp (pe_callB call_is hg hm (by decide +kernel) (pa_cons ha (pa_cons hcv pa_nil hst2) hst) (by decide) (by decide) hst hpl) fun σ H Q h => ?_
  obtain ⟨μ, S, ρ, rp, re, p⟩ := h
  refine ⟨μ, S, ρ, rp, re, ?_⟩
  refine Post.mono (Post.step p) ?_
  rintro v H1 ⟨μ1, S1, d, x1, rp1, rd1, p1⟩
  cases rd1 with
  | non => exact ⟨cv, cu, false, hcu, .inl ⟨rfl, hn, p1 μ1 H1 _ .refl rp1 (.bl false)⟩⟩
  | @ext c v hx =>
    have p1 : Post (J1 tabs lq cls fns lam) X.K E H1 μ1 (if c < cls.length then .ok (.bl (fe c)) S1 else .bad) Q := p1
    by_cases hc : c < cls.length
    · obtain ⟨_, a, rfl, ha⟩ | ⟨f, z, _⟩ | ⟨L, a, c', ctv, z, _⟩ := hx
      case inr.inl => omega
      case inr.inr => omega
      rw [if_pos hc] at p1
      have hC : cls[c]? = some (cls.getD c 0) := by rw [List.getD_eq_getElem?_getD, List.getElem?_eq_getElem hc]; rfl
      obtain ⟨h1, h2⟩ := he c _ hC
      exact ⟨cv, cu, fe c, hcu, .inr ⟨a, cls.getD c 0, rfl, ha, h1, h2, p1 μ1 H1 _ .refl rp1 (.bl _)⟩⟩
    · rw [if_neg hc] at p1; exact p1.elim
  | bl b => exact p1.elim
  | int i => exact p1.elim
  | str x => exact p1.elim
  | tup h r => exact p1.elim
  | con h r => exact p1.elim
  | loc h => exact p1.elim
  | ty n => exact p1.elim
end
def errB (K : PySem.W.Frag) (CH : Addr) (cls : List Addr) : Bool :=
  PySem.W.excIn K CH bmV newV && PySem.W.kitOne K (.type "NoneType") (.type "ValueError") == some false &&
  (List.range cls.length).all fun i => let C := cls.getD i 0
    PySem.W.excIn K C bmV newV && underIn K C CH && PySem.W.findIn K (.ref C) "__getattribute__" == some (some (.builtin "BaseException.__getattribute__")) && PySem.W.findIn K (.ref C) "__getattr__" == some none &&
    PySem.W.findIn K (.ref C) "__class__" == some (some (.builtin "object.__class__")) && PySem.W.kitOne K (.ref C) (.type "ValueError") == some true && PySem.W.kitOne K (.type "NoneType") (.ref C) == some false &&
    (List.range cls.length).all fun j => PySem.W.kitOne K (.ref C) (.ref (cls.getD j 0)) == some (i == j)
structure ErrT (K : PySem.W.Frag) (CH : Addr) (cls : List Addr) : Prop where
  ch : PySem.W.excIn K CH bmV newV = true
  nv : PySem.W.kitOne K (.type "NoneType") (.type "ValueError") = some false
  c : ∀ (i : Nat) (C : Addr), cls[i]? = some C → ErrC K C
  u : ∀ (i : Nat) (C : Addr), cls[i]? = some C → underIn K C CH = true
  v : ∀ (i : Nat) (C : Addr), cls[i]? = some C → PySem.W.kitOne K (.ref C) (.type "ValueError") = some true
  n : ∀ (i : Nat) (C : Addr), cls[i]? = some C → PySem.W.kitOne K (.type "NoneType") (.ref C) = some false
  k : ∀ (i j : Nat) (C C' : Addr), cls[i]? = some C → cls[j]? = some C' → PySem.W.kitOne K (.ref C) (.ref C') = some (i == j)
theorem err_of {K : PySem.W.Frag} {CH : Addr} {cls : List Addr} (h : errB K CH cls = true) : ErrT K CH cls := by
  unfold errB at h
  simp only [Bool.and_eq_true, beq_iff_eq, List.all_eq_true, List.mem_range] at h
  obtain ⟨⟨h1, h2⟩, h3⟩ := h
  have g : ∀ (i : Nat) (C : Addr), cls[i]? = some C → i < cls.length ∧ cls.getD i 0 = C := fun i C e => by
    have := (List.getElem?_eq_some_iff.mp e).1
    exact ⟨this, by rw [List.getD_eq_getElem?_getD, e]; rfl⟩
  refine ⟨h1, h2, fun i C e => ?_, fun i C e => ?_, fun i C e => ?_, fun i C e => ?_, fun i j C C' e e' => ?_⟩
  all_goals (obtain ⟨gi, gC⟩ := g i C e; obtain ⟨⟨⟨⟨⟨⟨⟨a1, a2⟩, a3⟩, a4⟩, a5⟩, a6⟩, a7⟩, a8⟩ := h3 i gi; rw [gC] at a1 a2 a3 a4 a5 a6 a7)
  · exact ⟨a1, a3, a4, a5⟩
  · exact a2
  · exact a6
  · exact a7
  · obtain ⟨gj, gC'⟩ := g j C' e'
    have := a8 j gj
    rw [gC, gC'] at this
    exact this
end SX
set_option Elab.async false
set_option linter.all false
set_option maxRecDepth 100000
set_option maxHeartbeats 4000000
namespace SX
open PySem PySem.Spec L2 SH PyProof.Rows
theorem fn_at {CX : CXT} {P : Program} {w : World} {K : PySem.W.Frag} {mg : Str → Option Value} {base : Heap} {k : Nat} {f : Addr} {name qual : Str} {params : Arguments} {body : List Stmt} {scope : Scope} {dV kV doc pm cdv ct oc : Value} {an od : Option Addr}
    {osl : Array (Option Value)} {N ps : List Str} (lk : K.lookup f = some ⟨oc, od, .func (PySem.W.fnOf name qual params body scope dV kV doc pm an cdv ct), osl⟩) (hcd : PySem.W.codeIn K cdv qual = true) (S : FnScope N ps scope)
    {A : Around} {outer : List PySem.Env} {s : Shared} {H : Hp} {args : Args} {us : List Value} {vs : List V} {Q : VK} {E : XK} (hr : Room (k + 1) A) (e0 : Env0 P w K mg base A outer s H) (hb : BindsTo s (PySem.W.fnOf name qual params body scope dV kV doc pm an cdv ct) args (ps.zip us)) (r : Vals vs us) (hl : vs.length = ps.length)
    (hbody : ∀ s1, Inv (cxOf CX P w K mg base N qual scope f cdv A outer s H E) [] (start N vs) H s1 → wpAny (model P w) (cxOf CX P w K mg base N qual scope f cdv A outer s H E).A (execs body (cxOf CX P w K mg base N qual scope f cdv A outer s H E).env)
      (L2.SP (cxOf CX P w K mg base N qual scope f cdv A outer s H E) [] { nx := fun _ H' => Q .non H', rt := Q }) (cxOf CX P w K mg base N qual scope f cdv A outer s H E).xe s1) :
    codeAny (model P w) A (.call (.ref f) args) (CR CX outer P w H s Q E) s := by
  have KX : K.In s.heap := e0.mod.kin.keeps fun b o e => (e0.bs b o e).1
  have lim : s.heap.NoLimit := e0.mod.nolimit.keeps fun b o e => (e0.bs b o e).1
  have hkind : ∀ y ∈ ps.zip us, scope.names.lookup y.1 = some .local ∨ (scope.names.lookup y.1 = some .cell ∧ ((cellsFrom (s.heap.objs.size + 1) scope.names []).lookup y.1).isSome = true) := fun ⟨n, v⟩ hy => by
    rcases S.par n (List.of_mem_zip hy).1 with q | q
    · exact .inl q
    · exact .inr ⟨q, PySem.W.cellsFrom_some _ _ _ (.inl q)⟩
  refine codeAny_call_function hr.depth (KX _ _ lk) rfl S.co S.gen rfl (PySem.W.codeRec_of KX hcd) (hb _ _ _ _ ?_)
  refine wpAny_newFunctionEnv_cells S.kind hkind fun env he s1 x => ?_
  subst he
  refine ⟨lim.keeps x.toInCall.keep, codeAny_func ?_⟩
  refine wpAny_mono (hbody s1 (inv_start S hr.hd e0 hl r x)) (fun fl s' hs => ?_) fun e s' hs => hs
  have fin : ∀ {σ' : L2.St} {H' : Hp} {v : V} {u : Value}, Inv (cxOf CX P w K mg base N qual scope f cdv A outer s H E) [] σ' H' s' → RelV v u → Q v H' → CE outer P w H s Q u s' :=
    fun {σ' H' v u} J rv q => ⟨v, H', J.os, J.bare, J.base, J.hok, rv, q⟩
  cases fl with
  | ret u =>
    obtain ⟨v, σ', H', J, rv, q⟩ := hs
    exact fin J rv q
  | next =>
    obtain ⟨σ', H', J, q⟩ := hs
    exact fin (v := V.non) (u := Value.none) J rfl q
  | brk =>
    obtain ⟨_, _, _, q⟩ := hs
    exact False.elim q
  | cont =>
    obtain ⟨_, _, _, q⟩ := hs
    exact False.elim q
theorem lam_at {X : Cx} {EX : XK} {pins : List (Addr × Obj)} {σ : L2.St} {H : Hp} {s : Shared} {params : Arguments} {body : Expr} {scope : Scope} {qual : Str} {pm ctv : Value} {a c' : Addr} (I : Inv X pins σ H s) (V : Lv X EX) (hfn : ∀ x, X.fn x = true)
    (hfree : ∀ y ∈ scope.names, y.2 = .free → X.env.scope.names.lookup y.1 = some .cell ∨ X.env.scope.names.lookup y.1 = some .free)
    (ob : s.heap.get? a = some (PySem.W.kla_obj "<lambda>" qual params body scope (cloFrom X.env.cells scope.names []) pm c' ctv)) (an : H a = none) (af : a ∉ frs X.stack) (co : H c' = some (.ext (CodeO c' qual))) :
    LamAt X.N params body scope qual pm (cloFrom X.env.cells scope.names []) a c' ctv σ H s.heap (frs X.stack) := by
  have hf : ∀ y ∈ scope.names, y.2 = .free → ∃ c, X.env.cells.lookup y.1 = some c := fun y hy e => by
    rcases hfree y hy e with z | z
    · exact I.ok.has _ (.inl z)
    · exact I.ok.has _ (.inr z)
  have cm : ∀ {y c}, (cloFrom X.env.cells scope.names []).lookup y = some c → X.env.cells.lookup y = some c := fun {y c} e => by
    rcases cloFrom_mem (PySem.mem_of_lookup e) with hm | ⟨h1, rfl⟩
    · cases hm
    · obtain ⟨c, hc⟩ := hf _ h1 rfl
      rw [hc]
      rfl
  have look : ∀ {y}, scope.names.lookup y = some .free → ∃ c, (cloFrom X.env.cells scope.names []).lookup y = some c ∧ X.env.cells.lookup y = some c := fun {y} hl => by
    obtain ⟨c, e⟩ := mem_lookup (cloFrom_has (cells := X.env.cells) (acc := []) (PySem.mem_of_lookup hl))
    exact ⟨c, e, cm e⟩
  refine ⟨.inl ⟨ob, an, af⟩, co, ⟨fun y c e => ⟨I.freeC y c (cm e), I.cell y c (cm e)⟩, fun y z c e1 e2 => I.ok.inj y z c (cm e1) (cm e2), fun y e => let ⟨c, e1, _⟩ := look e; ⟨c, e1⟩, fun i x v e1 e2 e3 => ?_, I.len⟩, fun y c e hm => ?_⟩
  · obtain ⟨m, hn, hl⟩ := I.loc
    have hk := hfree _ (PySem.mem_of_lookup e3) rfl
    obtain ⟨u, r, l⟩ := hl i x v e1 e2 (.inr hk)
    rcases l with ⟨z, _⟩ | ⟨_, c, z1, z2⟩
    · have z : X.env.scope.names.lookup x = some .local := z
      rcases hk with y | y <;> (rw [z] at y; cases y)
    · obtain ⟨c2, g1, g2⟩ := look e3
      rw [z1] at g2
      cases g2
      exact ⟨u, c, r, g1, z2⟩
  · have hc := cm e
    rw [V.st, frs_cons V.fr] at hm
    rcases List.mem_cons.mp hm with z | z
    · exact I.cne y c hc z
    · obtain ⟨_, o, ho, _⟩ := I.ok.funs.mem z
      exact absurd (Nat.lt_of_lt_of_le (Heap.lt_size ho) (I.ok.cab y c (hfn y) hc)) (Nat.lt_irrefl _)
end SX
set_option Elab.async false
set_option linter.all false
set_option maxRecDepth 100000
set_option maxHeartbeats 4000000
namespace SX
open PySem PySem.Spec L2 SH PyProof.Rows
def errD : Option Nat → D
  | none => .non
  | some c => .ext c
def wordF (n it : Nat) (mrest : SH.Env → M Fl) (o : Option Nat) : M D := fun S => (mrest ((List.replicate n none).set it (some (errD o))) S).bind fun f S1 => match f with
  | .nx _ => .ok .non S1
  | .rt d => .ok d S1
  | _ => .bad
def eRef (nc : Nat) (fw : Option Nat → M D) (mb : SH.Env → M D) : SH.Env → M D := fun ρ S => match mb ρ S with
  | .ok _ S1 => fw none S1
  | .exc c S1 => if c < nc then fw (some c) S1 else .bad
  | .bad => .bad
theorem envR_one {J : Ip} {K : PySem.W.Frag} {H : Hp} {μ : List Addr} {n it : Nat} {d : D} {v : V} {σ : L2.St} (hl : σ.length = n) (hv : it < n → σ[it]? = some (some v)) (r : RD J K H μ d v) : EnvR J K H μ ((List.replicate n none).set it (some d)) σ := by
  refine ⟨by rw [List.length_set, List.length_replicate, hl], fun i d' e => ?_⟩
  by_cases hi : i = it
  · subst hi
    have hin : i < n := by
      have := (List.getElem?_eq_some_iff.mp e).1
      rwa [List.length_set, List.length_replicate] at this
    rw [List.getElem?_set_self (by rw [List.length_replicate]; exact hin)] at e
    cases e
    exact ⟨v, hv hin, r⟩
  · rw [List.getElem?_set_ne (Ne.symm hi), List.getElem?_replicate] at e
    split at e <;> cases e
theorem rest_of {J : Ip} {K : PySem.W.Frag} {E : XE} {H : Hp} {μ : List Addr} {r : R Fl} {Q : VK} (p : Post J K E H μ (r.bind fun f S1 => match f with | .nx _ => .ok .non S1 | .rt d => .ok d S1 | _ => .bad) Q) :
    PostS J K E H μ r { nx := fun _ H' => Q .non H', rt := Q } := by
  cases r with
  | exc c S1 => exact p
  | bad => exact p
  | ok f S1 =>
    cases f with
    | nx ρ1 => exact fun μ' H' σ' x' rp' _ => p μ' H' .non x' rp' .non
    | rt d => exact p
    | bk ρ1 => exact False.elim p
    | ct ρ1 => exact False.elim p
section
variable {tabs : List Addr} {lq : List (Addr × Str)} {cls fns : List Addr} {lam : List LamI} {P : Program} {w : World} {K : PySem.W.Frag} {mg : Str → Option Value} {base : Heap}
structure WordRun (J : Ip) (nc : Nat) (P : Program) (w : World) (K : PySem.W.Frag) (mg : Str → Option Value) (base : Heap) (f : Addr) (Nw : List Str) (qw : Str) (sw : Scope) (cdw : Value) (k it : Nat) (mrest : SH.Env → M Fl) : Prop where
  run : ∀ {A : Around} {outer : List PySem.Env} {s : Shared} {H : Hp} {a c' : Addr} {N : List Str} {params : Arguments} {body : Expr} {scope : Scope} {qual : Str} {pm : Value} {cl : List (Str × Addr)} {ctv : Value} {σY : L2.St} {Q : VK} {E : XK} {mb : SH.Env → M D},
    Room (k + 1) A → Env0 P w K mg base A outer s H → LamAt N params body scope qual pm cl a c' ctv σY H s.heap (frs outer) → LamSc scope →
    (∀ pm cl c' ctv, bindArgs (PySem.W.kla_fn "<lambda>" qual params body scope cl pm (.ref c') ctv) ⟨[], []⟩ = pure []) →
    (∀ s1 E1, PE (lamCx (cxOf (CXe P w) P w K mg base Nw qw sw f cdw A outer s H E) N s1 H (PySem.W.envX qual scope s1.heap.objs.size a (.ref c') cl) E1) body (tM J K (fun c H1 => E1 (J.cls c) none H1) mb)) →
    (∃ μ S ρ, Rp J K H μ S ∧ EnvR J K H μ ρ σY ∧ Post J K (fun c H' => E (J.cls c) none H') H μ (eRef nc (wordF Nw.length it mrest) mb ρ S) Q) →
    codeAny (model P w) A (.call (.ref f) ⟨[.ref a], []⟩) (CR (CXe P w) outer P w H s Q E) s
theorem word_run {wn qw : Str} {st : Stmt} {f c CH : Addr} {fd : FuncData} {Nw : List Str} {k ie it : Nat} {x en tn cn : Str} {mrest : SH.Env → M Fl} {tp0 cp0 ap0 np cpos p1 hnp tp ep ap hp pos : Pos} {cj : Nat} {rest : List Stmt}
    (F : FunC K wn qw st f fd c) (Sc : FnScope Nw [x] (defScope st)) (hb : ∀ (s : Shared) (u : Value), BindsTo s fd ⟨[u], []⟩ [(x, u)]) (T : ErrT K CH cls)
    (hbody : defBody st = .Assign [.Name tn tp0] (.Constant .none cj cp0) ap0 :: .Try [.Expr (.Call (.Name x np) [] [] cpos) p1] [.ExceptHandler (some (.Name cn hnp)) (some en) [.Assign [.Name tn tp] (.Name en ep) ap] hp] [] [] pos :: rest)
    (h0 : Nw[0]? = some x) (hx : (defScope st).names.lookup x = some .local) (hie : Nw[ie]? = some en) (hit : Nw[it]? = some tn) (hen : (defScope st).names.lookup en = some .local) (htn : (defScope st).names.lookup tn = some .local) (hne : ie ≠ it) (hi0 : it ≠ 0) (hie0 : ie ≠ 0)
    (gH : (defScope st).names.lookup cn = some .globalImplicit) (mH : mg cn = some (.ref CH)) (hdb : (cn == ("__debug__" : Str)) = false) (hd1 : (en == ("__debug__" : Str)) = false) (hd2 : (en == ("__classdict__" : Str)) = false) (hd3 : (x == ("__debug__" : Str)) = false)
    (hsw : ∀ env, swapsWith (.Name en ep) (some (.Name tn tp)) ap.line env = pure false) (hsw1 : ∀ env, swapsWith (.Call (.Name x np) [] [] cpos) none p1.line env = pure false) (hsw2 : ∀ env, swapsWith (.Constant .none cj cp0) (some (.Name tn tp0)) ap0.line env = pure false)
    (hrest : ∀ (A : Around) (outer : List PySem.Env) (s : Shared) (H : Hp) (E : XK), Room k (A.deeper (envOfC qw (defScope st) s.heap.objs.size f (.ref c))) →
      XOk (J1 tabs lq cls fns lam) (cxOf (CXe P w) P w K mg base Nw qw (defScope st) f (.ref c) A outer s H E) (fun c H' => E ((J1 tabs lq cls fns lam).cls c) none H') →
      PSs (cxOf (CXe P w) P w K mg base Nw qw (defScope st) f (.ref c) A outer s H E) rest (tS (J1 tabs lq cls fns lam) K (fun c H' => E ((J1 tabs lq cls fns lam).cls c) none H') mrest)) :
    WordRun (J1 tabs lq cls fns lam) cls.length P w K mg base f Nw qw (defScope st) (.ref c) k it mrest := by
  refine ⟨?_⟩
  intro A outer s H a c' N params body scope qual pm cl ctv σY Q E mb hr e0 L S hbd hlam hpost
  obtain ⟨oc, od, kV, doc, pm', an, ct, osl, rfl, lk, hcd⟩ := F.ex
  obtain ⟨μ, S0, ρ, rp, re, p⟩ := hpost
  have itl : it < Nw.length := (List.getElem?_eq_some_iff.mp hit).1
  have iel : ie < Nw.length := (List.getElem?_eq_some_iff.mp hie).1
  have ol : 0 < Nw.length := (List.getElem?_eq_some_iff.mp h0).1
  refine fn_at (us := [.ref a]) (vs := [.ref a]) lk hcd Sc hr e0 (hb s (.ref a)) (.cons rfl .nil) rfl fun s1 I => ?_
  have xok : XOk (J1 tabs lq cls fns lam) (cxOf (CXe P w) P w K mg base Nw qw (defScope st) f (.ref c) A outer s H E) (fun c H' => E ((J1 tabs lq cls fns lam).cls c) none H') :=
    ⟨fun pins σ H1 s1 h' e c args I m hE => made_lv lv_cx I m hE, pass_lv lv_cx fun cls H' ⟨c, e, hE⟩ => by subst e; exact hE, hr.hd⟩
  rw [hbody]
  have startl : (start Nw [V.ref a]).length = Nw.length := I.len
  refine wpAny_execs_cons (thn (ps_set (X := cxOf (CXe P w) P w K mg base Nw qw (defScope st) f (.ref c) A outer s H E) (pos := ap0) Sc.nd hit (.inl htn) pe_non (hsw2 _) (.inl rfl) [] s1 _ H { nx := fun σ' H' => σ' = (start Nw [V.ref a]).set it (some .non) ∧ H' = H, rt := fun _ _ => False } I ⟨rfl, rfl⟩) fun fl s2 h2 => ?_)
  cases fl with
  | ret u => obtain ⟨_, _, _, _, _, z⟩ := h2; exact z.elim
  | brk => obtain ⟨_, _, _, z⟩ := h2; exact z.elim
  | cont => obtain ⟨_, _, _, z⟩ := h2; exact z.elim
  | next =>
    obtain ⟨σ1, H1, I1, rfl, rfl⟩ := h2
    have hr1 := hr.deeper (envOfC qw (defScope st) s.heap.objs.size f (.ref c))
    let D0 : Ends := { nx := fun _ H' => Q .non H', rt := Q }
    let D1 : Ends := { nx := fun σ' H' => tS (J1 tabs lq cls fns lam) K (fun c H' => E ((J1 tabs lq cls fns lam).cls c) none H') mrest D0 σ' H', rt := Q }
    have σl : ((start Nw [V.ref a]).set it (some V.non)).length = Nw.length := by rw [List.length_set]; exact startl
    refine wpAny_execs_cons (thn (try_lam (D := D1) (W := cxOf (CXe P w) P w K mg base Nw qw (defScope st) f (.ref c) A outer s H1 E) lv_cx Sc.nd I1 L S hr1 h0 hx ?_ hbd (hlam s2 _) ?_ hd3 gH mH T.ch hie hit hen htn hdb hd1 hd2 (hsw _) (hsw1 _)) fun fl s3 h3 => ?_)
    · rw [List.getElem?_set_ne hi0]
      rfl
    · refine ⟨μ, S0, ρ, rp, re, ?_⟩
      unfold eRef at p
      cases hm : mb ρ S0 with
      | bad => rw [hm] at p; exact p.elim
      | ok d S1 =>
        rw [hm] at p
        intro μ' H' v x' rp' rd
        refine ⟨μ', S1, _, rp', envR_one (d := .non) (v := .non) σl (fun h => List.getElem?_set_self (by rw [startl]; exact h)) .non, ?_⟩
        exact rest_of (Post.later x' p)
      | exc cc S1 =>
        rw [hm] at p
        have p : Post (J1 tabs lq cls fns lam) K (fun c H' => E ((J1 tabs lq cls fns lam).cls c) none H') H1 μ (if cc < cls.length then wordF Nw.length it mrest (some cc) S1 else .bad) Q := p
        by_cases hc : cc < cls.length
        · rw [if_pos hc] at p
          have hC : cls[cc]? = some (cls.getD cc 0) := by rw [List.getD_eq_getElem?_getD, List.getElem?_eq_getElem hc]; rfl
          intro μ' H' x' rp'
          refine ⟨cls.getD cc 0, rfl, (T.c _ _ hC).ex, T.u _ _ hC, fun ea hea => ?_⟩
          have x2 : Ext H' μ' (upd H' ea (.ext (ErrO ea (.ref (cls.getD cc 0))))) μ' := Ext.laid hea
          refine ⟨μ', S1, _, rp'.laid hea, envR_one (d := .ext cc) (v := .ref ea) (by rw [List.length_set, List.length_set, List.length_set]; exact σl) (fun h => ?_) (.ext (.inl ⟨hc, ea, rfl, upd_same⟩)), rest_of (Post.later (x'.trans x2) p)⟩
          rw [List.getElem?_set_ne hne, List.getElem?_set_self (by rw [List.length_set, List.length_set]; rw [startl]; exact h)]
        · rw [if_neg hc] at p; exact p.elim
    · cases fl with
      | ret u => obtain ⟨v, σ', H', I', r, z⟩ := h3; exact ⟨v, σ', H', I', r, z⟩
      | brk => obtain ⟨_, _, _, z⟩ := h3; exact z.elim
      | cont => obtain ⟨_, _, _, z⟩ := h3; exact z.elim
      | next =>
        obtain ⟨σ', H', I', z⟩ := h3
        exact hrest A outer s H1 E hr1 xok [] s3 σ' H' D0 I' z
end
end SX
set_option Elab.async false
set_option linter.all false
set_option maxRecDepth 100000
set_option maxHeartbeats 4000000
namespace SX
open PySem PySem.Spec L2 SH PyProof.Rows
theorem upd_comm {H : Hp} {a b : Addr} {o u : HO} (h : a ≠ b) : upd (upd H a o) b u = upd (upd H b u) a o := by
  funext x
  by_cases h1 : x = a
  · subst h1
    rw [upd_ne h, upd_same, upd_same]
  · by_cases h2 : x = b
    · subst h2
      rw [upd_same, upd_ne h1, upd_same]
    · rw [upd_ne h2, upd_ne h1, upd_ne h1, upd_ne h2]
section
variable {X : Cx} {EX : XK} {E : XE} {tabs : List Addr} {lq : List (Addr × Str)} {cls fns : List Addr} {lam : List LamI} {f c P : Addr} {Nw : List Str} {qw wn : Str} {sw scope : Scope} {cdw : Value} {k k' kb it : Nat} {mrest : SH.Env → M Fl} {mb : SH.Env → M D} {params : Arguments} {body : Expr} {p lpos cpos : Pos}
theorem e_ref (V : Lv X EX) (hfn : ∀ x, X.fn x = true) (hx : XOk (J1 tabs lq cls fns lam) X E) (hw : WordRun (J1 tabs lq cls fns lam) cls.length X.prog X.w X.K X.mg X.base f Nw qw sw cdw k it mrest) (hr : Room k' X.A) (hle : k + 1 ≤ k') (hg : Gl X wn) (hm : X.mg wn = some (.ref f)) (hk : PySem.W.keepIn X.K (.ref f) = true)
    (hcode : X.env.code = .ref c) (hcd : SG.CodeHd X.base c P) (hP : P ∈ tabs) (hlq : lq.lookup P = some (X.env.qual ++ "<lambda>")) (hbm : SG.Bm X.base X.mg) (S : LamSc scope)
    (hfree : ∀ y ∈ scope.names, y.2 = .free → X.env.scope.names.lookup y.1 = some .cell ∨ X.env.scope.names.lookup y.1 = some .free) (hdef : defaultsOf params X.env = ([], []))
    (hbd : ∀ pm cl c' ctv, bindArgs (PySem.W.kla_fn "<lambda>" (X.env.qual ++ "<lambda>") params body scope cl pm (.ref c') ctv) ⟨[], []⟩ = pure [])
    (hlam : ∀ (s : Shared) (H : Hp) (E0 : XK) (s1 : Shared) (H1 : Hp) (a c' : Addr) (cl : List (Str × Addr)) (E1 : XK),
      Room kb (lamCx (cxOf (CXe X.prog X.w) X.prog X.w X.K X.mg X.base Nw qw sw f cdw X.A X.stack s H E0) X.N s1 H1 (PySem.W.envX (X.env.qual ++ "<lambda>") scope s1.heap.objs.size a (.ref c') cl) E1).A →
      XOk (J1 tabs lq cls fns lam) (lamCx (cxOf (CXe X.prog X.w) X.prog X.w X.K X.mg X.base Nw qw sw f cdw X.A X.stack s H E0) X.N s1 H1 (PySem.W.envX (X.env.qual ++ "<lambda>") scope s1.heap.objs.size a (.ref c') cl) E1) (fun c H1 => E1 ((J1 tabs lq cls fns lam).cls c) none H1) →
      PE (lamCx (cxOf (CXe X.prog X.w) X.prog X.w X.K X.mg X.base Nw qw sw f cdw X.A X.stack s H E0) X.N s1 H1 (PySem.W.envX (X.env.qual ++ "<lambda>") scope s1.heap.objs.size a (.ref c') cl) E1) body (tM (J1 tabs lq cls fns lam) X.K (fun c H1 => E1 ((J1 tabs lq cls fns lam).cls c) none H1) mb))
    (hkb : kb + 1 ≤ k) (hdb : (wn == ("__debug__" : Str)) = false := by decide) (he : starEach [.Lambda params body scope lpos] X.env = (false, eval (.Lambda params body scope lpos) X.env) :: starEach [] X.env := by rfl) (hpl : (backTo cpos (starEach [] X.env)).any (·.1) = false := by rfl) :
    PE X (.Call (.Name wn p) [.Lambda params body scope lpos] [] cpos) (tM (J1 tabs lq cls fns lam) X.K E (eRef cls.length (wordF Nw.length it mrest) mb)) := by
  intro pins s σ H Q I ⟨μ, S0, ρ, rp, re, p⟩
  refine wpAny_Call_Name_kw (ld_glob I hg hm ?_ hdb)
  refine PySem.W.callWith_K (h₀ := X.base) I.ok.mod.kin hk ?_ he hpl
  obtain ⟨ps, hPs, ht, tk⟩ := rp.tab P hP
  rw [he]
  show wpAny _ _ (spliced ((false, eval (.Lambda params body scope lpos) X.env) :: backTo cpos (starEach [] X.env))) _ _ s
  have hf : ∀ y ∈ scope.names, y.2 = .free → ∃ c, X.env.cells.lookup y.1 = some c := fun y hy e => by
    rcases hfree y hy e with z | z
    · exact I.ok.has _ (.inl z)
    · exact I.ok.has _ (.inr z)
  refine Calls.spliced_cons (lam_make I hcode hcd hbm hPs ht (tk _ hlq) hf hdef fun a c' ctv H' s' hsz I' ob an co cs => ?_)
  refine Calls.spliced_nil ⟨I'.kIn, ?_⟩
  have rx : Rp (J1 tabs lq cls fns lam) X.K H' μ S0 ∧ Ext H μ H' μ := by
    rcases cs with rfl | ⟨hcn, rfl, ht'⟩
    · exact ⟨rp, .refl⟩
    · have hcP : P ≠ c' := fun z => by rw [← z, hPs] at hcn; cases hcn
      rw [upd_comm hcP]
      have e1 : (upd H c' (.ext (CodeO c' (X.env.qual ++ "<lambda>")))) P = some (.tbl ps) := by rw [upd_ne hcP]; exact hPs
      have rp1 := rp.laid (o := .ext (CodeO c' (X.env.qual ++ "<lambda>"))) hcn
      refine ⟨rp1.table e1 ht' fun qual hq cv hcv => ?_, (Ext.laid hcn).trans (Ext.table rp1 e1)⟩
      have e2 : (ps ++ #[rawInt lpos.line, rawInt lpos.col, Value.ref c']).toList = ps.toList ++ [rawInt lpos.line, rawInt lpos.col, .ref c'] := by simp
      rw [e2, show rawInt lpos.line = Value.int lpos.line 0 from rfl, show rawInt lpos.col = Value.int lpos.col 0 from rfl, codes_snoc _ ht] at hcv
      rcases List.mem_append.mp hcv with z | z
      · obtain ⟨c2, rfl, h2⟩ := tk qual hq cv z
        exact ⟨c2, rfl, (Ext.table (μ := μ) rp1 e1).imm _ _ ((Ext.laid (μ := μ) hcn).imm _ _ h2 rfl) rfl⟩
      · rw [List.mem_singleton.mp z]
        rw [hlq] at hq
        cases hq
        exact ⟨c', rfl, by rw [upd_ne (Ne.symm hcP)]; exact upd_same⟩
  obtain ⟨rp', x'⟩ := rx
  have af : a ∉ frs X.stack := fun z => by
    obtain ⟨_, o, ho, _⟩ := I.stack.mem z
    exact absurd (Nat.lt_of_lt_of_le (Heap.lt_size ho) hsz) (Nat.lt_irrefl _)
  have L := lam_at I' V hfn hfree ob an af co
  have hrk := hr.mono hle
  refine wpAny_call (codeAny_mono (hw.run (E := lift (J1 tabs lq cls fns lam) E) hrk I'.env0 L S hbd (fun s1 E1 => ?_) ⟨μ, S0, ρ, rp', re.mono x', Post.xmono (Post.later x' p) fun c H' z => ⟨c, rfl, z⟩⟩) fun r s2 hq => ?_)
  · have hra := ((hrk.deeper (envOfC qw sw s'.heap.objs.size f cdw)).mono hkb).deeper (PySem.W.envX (X.env.qual ++ "<lambda>") scope s1.heap.objs.size a (.ref c') (cloFrom X.env.cells scope.names []))
    exact hlam s' H' _ s1 H' a c' _ E1 hra ⟨fun pins σ H1 s1 h' e c args I m hE => made_lv (lv_lam rfl) I m hE, pass_lv (lv_lam rfl) fun cls H' ⟨c, e, hE⟩ => by subst e; exact hE, hra.hd⟩
  · cases r with
    | error e => exact hx.pass pins σ H' s' e s2 I' hq
    | ok fl =>
      cases fl with
      | ret u => exact I'.after hq
      | next => exact False.elim hq
      | brk => exact False.elim hq
      | cont => exact False.elim hq
end
end SX
set_option Elab.async false
set_option linter.all false
set_option maxRecDepth 100000
set_option maxHeartbeats 4000000
namespace SX
open PySem PySem.Spec L2 SH
def isNX (neg : Bool) : D → D → M D := fun x y S => match x, y with
  | .ext _, .non => .ok (.bl neg) S
  | x, y => isD neg x y S
section
variable {X : Cx} {E : XE} {tabs : List Addr} {lq : List (Addr × Str)} {cls fns : List Addr} {lam : List LamI}
theorem o_isX : OpM (J1 tabs lq cls fns lam) E X (compareOp .Is) (isNX false) := by
  obtain ⟨r, h1, h2⟩ := o_is (J := J1 tabs lq cls fns lam) (E := E) (X := X)
  refine ⟨_, OpR.or op_isN h1, fun H μ S x y v u Q rp rx ry p => ?_⟩
  unfold isNX at p
  split at p
  · cases ry
    cases rx with
    | ext hx =>
      obtain ⟨_, a, rfl, _⟩ | ⟨a, _, _, rfl⟩ | ⟨_, a, _, _, _, _, rfl, _⟩ := hx <;>
      exact .inl ⟨rfl, p μ H _ .refl rp (.bl _)⟩
  · exact .inr (h2 H μ S _ _ v u Q rp rx ry p)
end
def cntD (x : D) (ds : List D) : M D := fun S => match lItems S x, ds with
  | some xs, [.bl b] => (match blsO xs with
    | some bs => .ok (.int (bs.countP (· == b) : Nat)) S
    | none => .bad)
  | _, _ => .bad
def ixbD (x : D) (ds : List D) : M D := fun S => match lItems S x, ds with
  | some xs, [.bl b] => (match blsO xs with
    | some bs => (match bs.findIdx? (· == b) with
      | some j => .ok (.int (j : Nat)) S
      | none => .bad)
    | none => .bad)
  | _, _ => .bad
section
variable {J : Ip} {X : Cx} {E : XE}
def rCountB (K : PySem.W.Frag) : V → List V → Hp → VK → Prop := fun x xs H Q => ∃ (a : Addr) (bs : List Bool) (b : Bool), x = V.ref a ∧ xs = [.bl b] ∧ SqL K H a (bs.map V.bl) ∧ Q (.int (bs.countP (· == b) : Nat)) H
theorem flat_bls (bs : List Bool) : (bs.map V.bl).all flatV = true := List.all_eq_true.mpr fun x hx => by
  obtain ⟨n, _, rfl⟩ := List.mem_map.mp hx
  rfl
theorem count_vals {b : Bool} : ∀ {bs : List Bool} {us : List Value}, Vals (bs.map V.bl) us → us.countP (eqU (.bl b)) = bs.countP (· == b)
  | [], _, .nil => rfl
  | x :: bs, _, .cons r t => by
    rw [List.countP_cons, List.countP_cons, count_vals t, eqU_of r rfl]
    rfl
theorem mt_countB : MtR X "list.count" (rCountB X.K) := by
  intro pins s σ H x xs v us Q I rx rxs h
  obtain ⟨a, bs, b, rfl, rfl, hs, q⟩ := h
  cases rx
  cases rxs with
  | cons ry rt =>
    rename_i uy ut
    cases rt
    obtain ⟨its, rv, ⟨⟨cls, dd, data, sl⟩, n, ho, hc, hdn, hd⟩, hlen⟩ := I.list hs
    simp only at hc hd
    subst hc hd
    refine call_meets PySem.F.slot_list_count ⟨_, ho, rfl⟩ PySem.F.entry_list_count (PySem.F.args_list_count_2 _ _)
      (SeqAt.list_countAt a its.toArray n dd sl uy (eqU (.bl b))) ⟨ho, fun u' hu' => mem_eqAt ry rfl rv (flat_bls bs) u' (by simpa using hu'), ?_⟩
    have e := count_vals (b := b) rv
    refine ⟨.int (bs.countP (· == b) : Nat), H, I.tok _, ⟨s.toks, ?_⟩, q⟩
    show Value.int ((its.countP (eqU (.bl b)) : Nat) : Int) s.toks = _
    rw [e]
theorem cnt_r {H : Hp} {μ : List Addr} {S : Store} {x : D} {ds : List D} {v : V} {vs : List V} {Q : VK} (rp : Rp J X.K H μ S) (rx : RD J X.K H μ x v) (rds : RDs J X.K H μ ds vs) (p : Post J X.K E H μ (cntD x ds S) Q) : rCountB X.K v vs H Q := by
  unfold cntD at p
  split at p
  · rename_i xs b hl
    split at p
    · rename_i bs hb
      obtain ⟨q, ws, rfl, hq, rs⟩ := lItems_sq rp rx hl
      cases rds with
      | cons r1 r2 =>
        cases r2
        cases r1
        rw [bls_rd hb rs] at hq
        exact ⟨q, bs, b, rfl, rfl, hq, p μ H _ .refl rp (.int _)⟩
    · exact p.elim
  · exact p.elim
theorem ixb_r {H : Hp} {μ : List Addr} {S : Store} {x : D} {ds : List D} {v : V} {vs : List V} {Q : VK} (rp : Rp J X.K H μ S) (rx : RD J X.K H μ x v) (rds : RDs J X.K H μ ds vs) (p : Post J X.K E H μ (ixbD x ds S) Q) : rIndex X.K v vs H Q := by
  unfold ixbD at p
  split at p
  · rename_i xs b hl
    split at p
    · rename_i bs hb
      split at p
      · rename_i j hj
        obtain ⟨q, ws, rfl, hq, rs⟩ := lItems_sq rp rx hl
        cases rds with
        | cons r1 r2 =>
          cases r2
          cases r1
          rw [bls_rd hb rs] at hq
          obtain ⟨hjl, h1, h2⟩ := List.findIdx?_eq_some_iff_getElem.mp hj
          refine ⟨q, bs.map V.bl, .bl b, j, .bl bs[j], rfl, rfl, hq, rfl, flat_bls bs, by rw [List.getElem?_map, List.getElem?_eq_getElem hjl]; rfl, h1, fun m z' hm hz => ?_, p μ H _ .refl rp (.int _)⟩
          have hml : m < bs.length := Nat.lt_trans hm hjl
          rw [List.getElem?_map, List.getElem?_eq_getElem hml] at hz
          cases hz
          have := h2 m hm
          show (bs[m] == b) = false
          simpa using this
      · exact p.elim
    · exact p.elim
  · exact p.elim
end
def PF (X : Cx) (es : List Expr) (t : L2.St → Hp → (Hp → Prop) → Prop) (b : Nat) : Prop :=
  ∀ (pins : List (Addr × Obj)) (s : Shared) (σ : L2.St) (H : Hp) (Q : Hp → Prop) (acc : Str), Inv X pins σ H s → t σ H Q → acc.length + b ≤ sizeLine →
    Joins (model X.prog X.w) X.A X.xe (evalEach es X.env) acc (fun out s1 => out.length ≤ sizeLine ∧ ∃ H1, Inv X pins σ H1 s1 ∧ Q H1) s
def tfN : L2.St → Hp → (Hp → Prop) → Prop := fun _ H Q => Q H
def tfE (te : TE) (t : L2.St → Hp → (Hp → Prop) → Prop) : L2.St → Hp → (Hp → Prop) → Prop := fun σ H Q => te σ H fun v H1 => ∃ n : Nat, v = .int (n : Nat) ∧ n < 1100 ∧ t σ H1 Q
section
variable {X : Cx} {es : List Expr} {t : L2.St → Hp → (Hp → Prop) → Prop} {te : TE} {b : Nat} {e : Expr} {pos cpos : Pos} {cj : Nat} {x : Str}
end
def fsM : List (SH.Env → M D) → SH.Env → M Unit
  | [], _ => fun S => .ok () S
  | m :: r, ρ => fun S => (m ρ S).bind fun d S1 => match d with
    | .int i => if 0 ≤ i ∧ i < 1100 then fsM r ρ S1 else .bad
    | _ => .bad
def sRaiseF (c : Nat) (ms : List (SH.Env → M D)) : SH.Env → M Fl := fun ρ S => (fsM ms ρ S).bind fun _ S1 => .exc c S1
def FOk (J : Ip) (K : PySem.W.Frag) (E : XE) (t : L2.St → Hp → (Hp → Prop) → Prop) (ms : List (SH.Env → M D)) : Prop :=
  ∀ σ H Q μ S ρ, Rp J K H μ S → EnvR J K H μ ρ σ → (match fsM ms ρ S with | .ok _ S' => ∀ μ' H', Ext H μ H' μ' → Rp J K H' μ' S' → Q H' | .exc c S' => ∀ μ' H', Ext H μ H' μ' → Rp J K H' μ' S' → E c H' | .bad => False) → t σ H Q
end SX
set_option Elab.async false
set_option linter.all false
set_option maxRecDepth 100000
set_option maxHeartbeats 4000000
namespace SX
open PySem PySem.Spec L2 SH
theorem lamSc_of {scope : Scope} (h : decide (scope.isCoroutine = false ∧ scope.isGenerator = false ∧ scope.kind = .function ∧ (∀ y ∈ scope.names, y.2 ≠ .cell) ∧ ∀ y ∈ scope.names, y.2 ≠ .local) = true) : LamSc scope :=
  let ⟨h1, h2, h3, h4, h5⟩ := of_decide_eq_true h
  ⟨h1, h2, h3, h4, h5⟩
section
variable {J : Ip} {X : Cx} {E : XE} {a b c : Expr} {pos : Pos} {ma mb mc : SH.Env → M D}
end
theorem free_of {scope sc : Scope} (h : decide (∀ y ∈ scope.names, y.2 = .free → sc.names.lookup y.1 = some .cell ∨ sc.names.lookup y.1 = some .free) = true) : ∀ y ∈ scope.names, y.2 = .free → sc.names.lookup y.1 = some .cell ∨ sc.names.lookup y.1 = some .free := of_decide_eq_true h
section
variable {J : Ip} {K : PySem.W.Frag} {mg : Str → Option Value} {x : Str}
theorem g_intE {z : Int} {t : Tok} (h : mg x = some (.int z t)) (hd : (x == ("__debug__" : Str)) = false := by decide) : ∀ {E : XE} {X : Cx} {pos : Pos}, Gl X x → X.mg = mg → X.K = K → PE X (.Name x pos) (tM J X.K E (eC (.int z))) :=
  fun {E X pos} g e1 e2 => e_cst (t := tC .non) (pe_glob (v := .int z) g (by rw [e1]; exact h) ⟨_, rfl⟩ hd) fun _ _ => .int z
theorem g_strsE {a : Addr} {s1 s2 : Str} {t1 t2 : Tok} {n : Nat} {sl : Array (Option Value)} (h : mg x = some (.ref a)) (l : K.lookup a = some ⟨.type "tuple", none, .seq #[.str s1 t1, .str s2 t2] n, sl⟩) (hd : (x == ("__debug__" : Str)) = false := by decide) :
    ∀ {E : XE} {X : Cx} {pos : Pos}, Gl X x → X.mg = mg → X.K = K → PE X (.Name x pos) (tM J X.K E (eC (.tup [.str s1, .str s2]))) :=
  fun {E X pos} g e1 e2 => e_cst (t := tC .non) (pe_glob (v := .ref a) g (by rw [e1]; exact h) rfl hd) fun H μ => by
    rw [e2]
    exact .tup (vs := [.str s1, .str s2]) (.inr ⟨_, _, _, l, rfl, rfl, rfl, by show 2 ≤ sizeLine; decide, .cons ⟨_, rfl⟩ (.cons ⟨_, rfl⟩ .nil)⟩) (.cons (.str _) (.cons (.str _) .nil))
end
end SX
set_option Elab.async false
set_option linter.all false
set_option maxRecDepth 100000
set_option maxHeartbeats 4000000
namespace SH
open PySem PySem.Spec L2 SX
open Classical
structure WE (X : Cx) (e : Expr) (t : TE) : Prop where h : PE X e t
structure WT (X : Cx) (e : Expr) (t : TT) : Prop where h : PT X e t
structure WW (X : Cx) (e : Expr) (t : TT) : Prop where h : PW X e t
structure WA (X : Cx) (es : List Expr) (t : TA) : Prop where h : PA X es t
structure WS (X : Cx) (st : Stmt) (t : TS) : Prop where h : PS X st t
structure WSs (X : Cx) (st : List Stmt) (t : TS) : Prop where h : PSs X st t
structure WI (X : Cx) (tg iter : Expr) (t : TI) : Prop where h : PI X tg iter t
structure WTs (X : Cx) (ifs : List Expr) (t : TT) : Prop where h : PTs X ifs t
structure WO (X : Cx) (e : Option Expr) (t : TO) : Prop where h : PO X e t
section -- SH
variable {J : Ip} {E : XE} {X : Cx} {e tg iter : Expr} {body : List Stmt} {pos : Pos} {ma : Env → M D} {mc : Env → M Bool} {mb : Env → M Fl} {mi : Env → M Src} {as : Env → M (List D)}
end
section -- SH
variable {J : Ip} {E : XE} {X : Cx} {e o i : Expr} {es : List Expr} {pos p apos cpos tpos : Pos} {ma mo mi : Env → M D} {as : Env → M (List D)} {id : String} {name : Str}
end
section -- SH
variable {J : Ip} {E : XE} {X : Cx}
theorem w_e_neg {k : Int} {j : Nat} {p3 p4 : Pos} : WE X (.UnaryOp .USub (.Constant (.int k) j p3) p4) (tM J X.K E (eC (.int (-k)))) := ⟨e_neg ⟩
end
section -- SH
variable {J : Ip} {E : XE} {X : Cx} {e a b c : Expr} {es : List Expr} {pos : Pos} {ma mb mc : Env → M D} {tA' tB' tC' : Env → M Bool} {as : Env → M (List D)}
end
section -- SH
variable {J : Ip} {E : XE} {X : Cx} {e a b : Expr} {ma mb : Env → M D} {pos p2 : Pos} {lo hi : Option Expr} {ml mh : Env → M (Option Int)}
theorem w_e_sl (ha : WE X a (tM J X.K E ma)) (hl : WO X lo (tP J X.K E ml)) (hh : WO X hi (tP J X.K E mh)) : WE X (.Subscript a (.Slice lo hi none p2) pos) (tM J X.K E (eSl ma ml mh)) := ⟨e_sl (ha := ha.h) (hl := hl.h) (hh := hh.h)⟩
end
section -- SH
variable {J : Ip} {E : XE} {X : Cx} {e a b : Expr} {ma mb : Env → M D} {pos p2 : Pos} {lo hi : Option Expr} {ml mh : Env → M (Option Int)}
theorem w_p_none  : WO X none (tP J X.K E pN) := ⟨p_none ⟩
end
section -- SH
variable {J : Ip} {E : XE} {X : Cx} {e a b : Expr} {ma mb : Env → M D} {pos p2 : Pos} {lo hi : Option Expr} {ml mh : Env → M (Option Int)}
theorem w_p_some (h : WE X e (tM J X.K E ma)) : WO X (some e) (tP J X.K E (pS ma)) := ⟨p_some (h := h.h)⟩
end
section -- SH
variable {J : Ip} {E : XE} {X : Cx} {e st : Expr} {pos p2 : Pos} {ma : Env → M D}
end
section -- SH
variable {J : Ip} {E : XE} {X : Cx}
end
section -- SH
variable {J : Ip} {E : XE} {X : Cx} {e e2 tg iter : Expr} {pos p tpos : Pos} {elts : List Expr} {kk : Nat} {as : Env → M (List D)}
end
section -- SH
variable {J : Ip} {E : XE} {X : Cx} {a b e o i : Expr} {pos p tpos : Pos} {ma mb mo mi : Env → M D} {as : Env → M (List D)}
end
section -- SH
variable {J : Ip} {X : Cx} {k k' : Nat} {f : Addr} {fd : FuncData} {ps : List Str} {fm : List D → M D} {x : Str} {p cpos : Pos} {e : Expr} {es : List Expr} {as : Env → M (List D)}
end
section -- SH
variable {J : Ip} {E : XE} {X : Cx} {e tg iter : Expr} {pos p cp kp kq : Pos} {as : Env → M (List D)}
end
section -- SH
variable {J : Ip} {E : XE} {X : Cx} {e tg iter : Expr} {pos p cp kp kq : Pos} {as : Env → M (List D)}
end
section -- SH
variable {J : Ip} {E : XE} {X : Cx} {a b e o i : Expr} {pos p tpos : Pos} {ma mb mo mi : Env → M D} {as : Env → M (List D)}
end
section -- SH
variable {J : Ip} {E : XE} {X : Cx} {e a b : Expr} {ma mb : Env → M D} {pos p2 : Pos} {lo hi : Option Expr} {ml mh : Env → M (Option Int)}
variable {es : List Expr} {as : Env → M (List D)} {x : Str} {p cpos : Pos} {id T : String}
theorem w_e_callTy {f : List D → M D} (hc : CallM J E X (.type T) f) (hg : Gl X x) (hm : X.mg x = none) (hv : bootBuiltins x = some (.type T)) (ha : WA X (e :: es) (tA J X.K E as)) (hn : x ≠ "__name__" := by decide) (hdb : (x == ("__debug__" : Str)) = false := by decide) (he : starEach (e :: es) X.env = (false, eval e X.env) :: starEach es X.env := by rfl) (hpl : (backTo cpos (starEach es X.env)).any (·.1) = false := by rfl) : WE X (.Call (.Name x p) (e :: es) [] cpos) (tM J X.K E (eA f as)) := ⟨e_callTy (hc := hc) (hg := hg) (hm := hm) (hv := hv) (ha := ha.h) (hn := hn) (hdb := hdb) (he := he) (hpl := hpl)⟩
end
section -- SH
variable {J : Ip} {E : XE} {X : Cx} {elt tg iter : Expr} {ifs : List Expr} {pos p cpos : Pos} {me : Env → M D} {mq : Env → M Bool} {mi : Env → M Src} {scope : Scope} {own : List (Str × Nat)} {g : TG} {t : Tg} {c P : Addr} {k : Nat}
end
section -- SH
variable {J : Ip} {E : XE} {X : Cx} {e tg iter : Expr} {pos p cp kp kq : Pos} {as : Env → M (List D)}
end
section -- SH
variable {J : Ip} {E : XE} {X : Cx} {e e2 tg iter : Expr} {pos p tpos : Pos} {elts : List Expr} {kk : Nat} {as : Env → M (List D)}
end
section -- SH
variable {J : Ip} {E : XE} {X : Cx} {e e2 tg iter : Expr} {pos p tpos : Pos} {elts : List Expr} {kk : Nat} {as : Env → M (List D)}
end
section -- SH
variable {J : Ip} {E : XE} {X : Cx} {e o i : Expr} {es : List Expr} {pos p apos cpos tpos : Pos} {ma mo mi : Env → M D} {as : Env → M (List D)} {id : String} {name : Str}
end
section -- SH
variable {J : Ip} {E : XE} {X : Cx} {a b e o i : Expr} {pos p tpos : Pos} {ma mb mo mi : Env → M D} {as : Env → M (List D)}
end
section -- SH
variable {J : Ip} {E : XE} {X : Cx} {a b e o i : Expr} {pos p tpos : Pos} {ma mb mo mi : Env → M D} {as : Env → M (List D)}
theorem w_e_dnew  : WE X (.Dict [] [] pos) (tM J X.K E eDNew) := ⟨e_dnew ⟩
end
section -- SH
variable {J : Ip} {E : XE} {X : Cx} {e c : Expr} {st : Stmt} {sts a b : List Stmt} {pos : Pos} {ma : Env → M D} {mc : Env → M Bool} {m1 m2 : Env → M Fl}
end
section -- SH
variable {J : Ip} {E : XE} {X : Cx} {e c : Expr} {st : Stmt} {sts a b : List Stmt} {pos : Pos} {ma : Env → M D} {mc : Env → M Bool} {m1 m2 : Env → M Fl}
end
section -- SH
variable {J : Ip} {E : XE} {X : Cx} {e c : Expr} {st : Stmt} {sts a b : List Stmt} {pos : Pos} {ma : Env → M D} {mc : Env → M Bool} {m1 m2 : Env → M Fl}
end
section -- SH
variable {J : Ip} {E : XE} {X : Cx} {elt tg iter tg1 iter1 : Expr} {ifs ifs1 : List Expr} {pos : Pos} {me : Env → M D} {mq mq1 : Env → M Bool} {mi mi1 : Env → M Src} {scope : Scope} {own : List (Str × Nat)}
end
section -- SX
variable {X : Cx} {es : List Expr} {t : L2.St → Hp → (Hp → Prop) → Prop} {te : TE} {b : Nat} {e : Expr} {pos cpos : Pos} {cj : Nat} {x : Str}
end
section -- SH
variable {J : Ip} {E : XE} {X : Cx} {e a b c : Expr} {es : List Expr} {pos : Pos} {ma mb mc : Env → M D} {tA' tB' tC' : Env → M Bool} {as : Env → M (List D)}
theorem w_e_var {x : Str} (i : Nat) (hN : X.N[i]? = some x := by rfl) (hv : Vis X.env.scope x := by first | exact Or.inl rfl | exact Or.inr (Or.inl rfl) | exact Or.inr (Or.inr rfl)) (hd : (x == ("__debug__" : Str)) = false := by decide) (hcd : (x == ("__classdict__" : Str)) = false := by decide) : WE X (.Name x pos) (tM J X.K E (eV i)) := ⟨e_var (i := i) (hN := hN) (hv := hv) (hd := hd) (hcd := hcd)⟩
end
section -- SH
variable {J : Ip} {E : XE} {X : Cx} {e a b c : Expr} {es : List Expr} {pos : Pos} {ma mb mc : Env → M D} {tA' tB' tC' : Env → M Bool} {as : Env → M (List D)}
theorem w_a_cons (ha : WE X e (tM J X.K E ma)) (hr : WA X es (tA J X.K E as)) (hs : starEach (e :: es) X.env = (false, eval e X.env) :: starEach es X.env := by rfl) : WA X (e :: es) (tA J X.K E (aC ma as)) := ⟨a_cons (ha := ha.h) (hr := hr.h) (hs := hs)⟩
end
section -- SH
variable {J : Ip} {E : XE} {X : Cx} {e a b c : Expr} {es : List Expr} {pos : Pos} {ma mb mc : Env → M D} {tA' tB' tC' : Env → M Bool} {as : Env → M (List D)}
theorem w_a_nil  : WA X [] (tA J X.K E aN) := ⟨a_nil ⟩
end
section -- SH
variable {J : Ip} {E : XE} {X : Cx} {e a b c : Expr} {es : List Expr} {pos : Pos} {ma mb mc : Env → M D} {tA' tB' tC' : Env → M Bool} {as : Env → M (List D)}
theorem w_e_int {i j} : WE X (.Constant (.int i) j pos) (tM J X.K E (eC (.int i))) := ⟨e_int ⟩
end
section -- SH
variable {J : Ip} {E : XE} {X : Cx} {e a b c : Expr} {es : List Expr} {pos : Pos} {ma mb mc : Env → M D} {tA' tB' tC' : Env → M Bool} {as : Env → M (List D)}
theorem w_e_op {op : Operator} {f : D → D → M D} (ho : OpM J E X (binaryOp op) f) (ha : WE X a (tM J X.K E ma)) (hb : WE X b (tM J X.K E mb)) : WE X (.BinOp a op b pos) (tM J X.K E (e2 f ma mb)) := ⟨e_op (ho := ho) (ha := ha.h) (hb := hb.h)⟩
end
section -- SH
variable {J : Ip} {E : XE} {X : Cx} {e c : Expr} {st : Stmt} {sts a b : List Stmt} {pos : Pos} {ma : Env → M D} {mc : Env → M Bool} {m1 m2 : Env → M Fl}
theorem w_ss_cons (h1 : WS X st (tS J X.K E m1)) (h2 : WSs X sts (tS J X.K E m2)) : WSs X (st :: sts) (tS J X.K E (sSeq m1 m2)) := ⟨ss_cons (h1 := h1.h) (h2 := h2.h)⟩
end
section -- SH
variable {J : Ip} {E : XE} {X : Cx} {e c : Expr} {st : Stmt} {sts a b : List Stmt} {pos : Pos} {ma : Env → M D} {mc : Env → M Bool} {m1 m2 : Env → M Fl}
theorem w_ss_one (h1 : WS X st (tS J X.K E m1)) : WSs X [st] (tS J X.K E m1) := ⟨ss_one (h1 := h1.h)⟩
end
section -- SX
variable {J : Ip} {X : Cx} {E : XE} {k k' : Nat} {f : Addr} {fd : FuncData} {ps : List Str} {fm : List D → M D} {x : Str} {p cpos : Pos} {e : Expr} {es : List Expr} {as : SH.Env → M (List D)}
theorem w_e_calX (hx : XOk J X E) (C : CalX J X.prog X.w X.K X.mg X.base x f fd k ps fm) (hr : Room k' X.A) (hle : k ≤ k') (hg : Gl X x) (hn : ∀ ρ S ds S1, as ρ S = .ok ds S1 → ds.length = ps.length) (ha : WA X (e :: es) (tA J X.K E as)) (hdb : (x == ("__debug__" : Str)) = false := by decide) (he : starEach (e :: es) X.env = (false, eval e X.env) :: starEach es X.env := by rfl) (hpl : (backTo cpos (starEach es X.env)).any (·.1) = false := by rfl) : WE X (.Call (.Name x p) (e :: es) [] cpos) (tM J X.K E (eA fm as)) := ⟨e_calX (hx := hx) (C := C) (hr := hr) (hle := hle) (hg := hg) (hn := hn) (ha := ha.h) (hdb := hdb) (he := he) (hpl := hpl)⟩
end
section -- SH
variable {J : Ip} {E : XE} {X : Cx} {e c : Expr} {st : Stmt} {sts a b : List Stmt} {pos : Pos} {ma : Env → M D} {mc : Env → M Bool} {m1 m2 : Env → M Fl}
theorem w_s_ret (he : WE X e (tM J X.K E ma)) : WS X (.Return (some e) pos) (tS J X.K E (sRet ma)) := ⟨s_ret (he := he.h)⟩
end
section -- SH
variable {J : Ip} {E : XE} {X : Cx} {e c : Expr} {st : Stmt} {sts a b : List Stmt} {pos : Pos} {ma : Env → M D} {mc : Env → M Bool} {m1 m2 : Env → M Fl}
theorem w_s_set {i : Nat} {x : Str} {pos' : Pos} (hN : X.N.Nodup) (hi : X.N[i]? = some x) (hx : Loc X.env.scope x) (he : WE X e (tM J X.K E ma)) (hs : swapsWith e (some (.Name x pos')) pos.line X.env = pure false := by rfl) (hf : X.fn x = true ∨ X.env.scope.names.lookup x = some .local := by first | exact .inl rfl | exact .inr rfl | assumption) : WS X (.Assign [.Name x pos'] e pos) (tS J X.K E (sAsg ma (tgN i))) := ⟨s_set (hN := hN) (hi := hi) (hx := hx) (he := he.h) (hs := hs) (hf := hf)⟩
end
section -- SH
variable {J : Ip} {E : XE} {X : Cx} {e a b c : Expr} {es : List Expr} {pos : Pos} {ma mb mc : Env → M D} {tA' tB' tC' : Env → M Bool} {as : Env → M (List D)}
theorem w_e_str {x j} : WE X (.Constant (.str x) j pos) (tM J X.K E (eC (.str x))) := ⟨e_str ⟩
end
section -- SH
variable {J : Ip} {E : XE} {X : Cx} {e a b c : Expr} {es : List Expr} {pos : Pos} {ma mb mc : Env → M D} {tA' tB' tC' : Env → M Bool} {as : Env → M (List D)}
theorem w_e_tup {x1} (h : WA X es (tA J X.K E as)) : WE X (.Tuple es x1 pos) (tM J X.K E (eA mTup as)) := ⟨e_tup (h := h.h)⟩
end
section -- SH
variable {J : Ip} {E : XE} {X : Cx} {e a b c : Expr} {es : List Expr} {pos : Pos} {ma mb mc : Env → M D} {tA' tB' tC' : Env → M Bool} {as : Env → M (List D)}
theorem w_t_cmp {op : CmpOp} {f : D → D → M D} (ho : OpM J E X (compareOp op) f) (ha : WE X a (tM J X.K E ma)) (hb : WE X b (tM J X.K E mb)) (hm : behindInMarks op b = false) : WT X (.Compare a [op] [b] pos) (tT J X.K E (bV (e2 f ma mb))) := ⟨t_cmp (ho := ho) (ha := ha.h) (hb := hb.h) (hm := hm)⟩
end
section -- SH
variable {J : Ip} {E : XE} {X : Cx} {e a b : Expr} {ma mb : Env → M D} {pos p2 : Pos} {lo hi : Option Expr} {ml mh : Env → M (Option Int)}
theorem w_e_ix (ha : WE X a (tM J X.K E ma)) (hb : WE X b (tM J X.K E mb)) (hs : PlainIx b) : WE X (.Subscript a b pos) (tM J X.K E (e2 ixD ma mb)) := ⟨e_ix (ha := ha.h) (hb := hb.h) (hs := hs)⟩
end
section -- SH
variable {J : Ip} {E : XE} {X : Cx} {e a b : Expr} {ma mb : Env → M D} {pos p2 : Pos} {lo hi : Option Expr} {ml mh : Env → M (Option Int)}
variable {es : List Expr} {as : Env → M (List D)} {x : Str} {p cpos : Pos} {id T : String}
theorem w_e_callB {f : List D → M D} (hc : CallM J E X (.builtin id) f) (hg : Gl X x) (hm : X.mg x = none) (hv : bootBuiltins x = some (.builtin id)) (ha : WA X (e :: es) (tA J X.K E as)) (hn : x ≠ "__name__" := by decide) (hdb : (x == ("__debug__" : Str)) = false := by decide) (he : starEach (e :: es) X.env = (false, eval e X.env) :: starEach es X.env := by rfl) (hpl : (backTo cpos (starEach es X.env)).any (·.1) = false := by rfl) : WE X (.Call (.Name x p) (e :: es) [] cpos) (tM J X.K E (eA f as)) := ⟨e_callB (hc := hc) (hg := hg) (hm := hm) (hv := hv) (ha := ha.h) (hn := hn) (hdb := hdb) (he := he) (hpl := hpl)⟩
end
section -- SH
variable {J : Ip} {E : XE} {X : Cx} {e c : Expr} {st : Stmt} {sts a b : List Stmt} {pos : Pos} {ma : Env → M D} {mc : Env → M Bool} {m1 m2 : Env → M Fl}
theorem w_ss_nil  : WSs X [] (tS J X.K E sNil) := ⟨ss_nil ⟩
end
section -- SH
variable {J : Ip} {E : XE} {X : Cx} {e c : Expr} {st : Stmt} {sts a b : List Stmt} {pos : Pos} {ma : Env → M D} {mc : Env → M Bool} {m1 m2 : Env → M Fl}
theorem w_s_if (hc : WT X c (tT J X.K E mc)) (ha : WSs X a (tS J X.K E m1)) (hb : WSs X b (tS J X.K E m2)) : WS X (.If c a b pos) (tS J X.K E (sIf mc m1 m2)) := ⟨s_if (hc := hc.h) (ha := ha.h) (hb := hb.h)⟩
end
section -- SX
variable {X : Cx} {E : XE} {tabs : List Addr} {lq : List (Addr × Str)} {cls fns : List Addr} {lam : List SX.LamI} {e ec : Expr} {me : SH.Env → M D} {cv : V} {cu : Value} {fe : Nat → Bool} {p cpos : Pos}
theorem w_e_is (hcv : WE X ec (tC cv)) (hcu : ∀ u, RelV cv u → u = cu) (hn : PySem.W.kitOne X.K (.type "NoneType") cu = some false) (he : ∀ c C, cls[c]? = some C → ErrC X.K C ∧ PySem.W.kitOne X.K (.ref C) cu = some (fe c)) (ha : WE X e (tM (J1 tabs lq cls fns lam) X.K E me)) (hg : Gl X "isinstance") (hm : X.mg "isinstance" = none) (hst : starEach [e, ec] X.env = (false, eval e X.env) :: starEach [ec] X.env := by rfl) (hst2 : starEach [ec] X.env = (false, eval ec X.env) :: starEach [] X.env := by rfl) (hpl : (backTo cpos (starEach [ec] X.env)).any (·.1) = false := by rfl) : WE X (.Call (.Name "isinstance" p) [e, ec] [] cpos) (tM (J1 tabs lq cls fns lam) X.K E (eIs cls.length fe me)) := ⟨e_is (hcv := hcv.h) (hcu := hcu) (hn := hn) (he := he) (ha := ha.h) (hg := hg) (hm := hm) (hst := hst) (hst2 := hst2) (hpl := hpl)⟩
end
section -- SH
variable {J : Ip} {E : XE} {X : Cx} {e a b c : Expr} {es : List Expr} {pos : Pos} {ma mb mc : Env → M D} {tA' tB' tC' : Env → M Bool} {as : Env → M (List D)}
theorem w_e_lst (h : WA X es (tA J X.K E as)) : WE X (.List es pos) (tM J X.K E (eA mLst as)) := ⟨e_lst (h := h.h)⟩
end
section -- SH
variable {J : Ip} {E : XE} {X : Cx} {e a b c : Expr} {es : List Expr} {pos : Pos} {ma mb mc : Env → M D} {tA' tB' tC' : Env → M Bool} {as : Env → M (List D)}
theorem w_t_w (h : WW X e (tT J X.K E tA')) : WT X e (tT J X.K E tA') := ⟨t_w (h := h.h)⟩
end
section -- SH
variable {J : Ip} {E : XE} {X : Cx} {e a b c : Expr} {es : List Expr} {pos : Pos} {ma mb mc : Env → M D} {tA' tB' tC' : Env → M Bool} {as : Env → M (List D)}
theorem w_e_bl {i j} : WE X (.Constant (.bool i) j pos) (tM J X.K E (eC (.bl i))) := ⟨e_bl ⟩
end
section -- SH
variable {J : Ip} {E : XE} {X : Cx} {e a b c : Expr} {es : List Expr} {pos : Pos} {ma mb mc : Env → M D} {tA' tB' tC' : Env → M Bool} {as : Env → M (List D)}
theorem w_w_or {rest : List Expr} (ha : WT X a (tT J X.K E tA')) (hb : WW X (.BoolOp .Or (b :: rest) pos) (tT J X.K E tB')) : WW X (.BoolOp .Or (a :: b :: rest) pos) (tT J X.K E (bOr tA' tB')) := ⟨w_or (ha := ha.h) (hb := hb.h)⟩
end
section -- SH
variable {J : Ip} {E : XE} {X : Cx} {e a b c : Expr} {es : List Expr} {pos : Pos} {ma mb mc : Env → M D} {tA' tB' tC' : Env → M Bool} {as : Env → M (List D)}
end
section -- SH
variable {J : Ip} {E : XE} {X : Cx} {e a b c : Expr} {es : List Expr} {pos : Pos} {ma mb mc : Env → M D} {tA' tB' tC' : Env → M Bool} {as : Env → M (List D)}
theorem w_w_or1 (ha : WT X a (tT J X.K E tA')) : WW X (.BoolOp .Or [a] pos) (tT J X.K E tA') := ⟨w_or1 (ha := ha.h)⟩
end
section -- SH
variable {J : Ip} {E : XE} {X : Cx} {e a b c : Expr} {es : List Expr} {pos : Pos} {ma mb mc : Env → M D} {tA' tB' tC' : Env → M Bool} {as : Env → M (List D)}
theorem w_t_not (ha : WT X a (tT J X.K E tA')) : WT X (.UnaryOp .Not a pos) (tT J X.K E (bNot tA')) := ⟨t_not (ha := ha.h)⟩
end
section -- SH
variable {J : Ip} {E : XE} {X : Cx} {e a b c : Expr} {es : List Expr} {pos : Pos} {ma mb mc : Env → M D} {tA' tB' tC' : Env → M Bool} {as : Env → M (List D)}
theorem w_e_one {op} {m : Env → M D} (h : WE X a (tM J X.K E m)) : WE X (.BoolOp op [a] pos) (tM J X.K E m) := ⟨e_one (h := h.h)⟩
end
section -- SH
variable {J : Ip} {E : XE} {X : Cx} {e c : Expr} {st : Stmt} {sts a b : List Stmt} {pos : Pos} {ma : Env → M D} {mc : Env → M Bool} {m1 m2 : Env → M Fl}
theorem w_s_expr (he : WE X e (tM J X.K E ma)) (hs : swapsWith e none pos.line X.env = pure false := by rfl) : WS X (.Expr e pos) (tS J X.K E (sEx ma)) := ⟨s_expr (he := he.h) (hs := hs)⟩
end
section -- SH
variable {J : Ip} {E : XE} {X : Cx} {e a b : Expr} {ma mb : Env → M D} {pos p2 : Pos} {lo hi : Option Expr} {ml mh : Env → M (Option Int)}
variable {es : List Expr} {as : Env → M (List D)} {x : Str} {p cpos : Pos} {id T : String}
theorem w_e_ty {T : String} (hg : Gl X x) (hm : X.mg x = none) (hv : bootBuiltins x = some (.type T)) (hn : x ≠ "__name__" := by decide) (hd : (x == ("__debug__" : Str)) = false := by decide) : WE X (.Name x pos) (tM J X.K E (eC (.ty T))) := ⟨e_ty (hg := hg) (hm := hm) (hv := hv) (hn := hn) (hd := hd)⟩
end
section -- SH
variable {J : Ip} {E : XE} {X : Cx} {e a b c : Expr} {es : List Expr} {pos : Pos} {ma mb mc : Env → M D} {tA' tB' tC' : Env → M Bool} {as : Env → M (List D)}
theorem w_e_cmp {op : CmpOp} {f : D → D → M D} (ho : OpM J E X (compareOp op) f) (ha : WE X a (tM J X.K E ma)) (hb : WE X b (tM J X.K E mb)) (hm : behindInMarks op b = false) : WE X (.Compare a [op] [b] pos) (tM J X.K E (e2 f ma mb)) := ⟨e_cmp (ho := ho) (ha := ha.h) (hb := hb.h) (hm := hm)⟩
end
section -- SH
variable {J : Ip} {E : XE} {X : Cx} {elt tg iter : Expr} {ifs : List Expr} {pos : Pos} {me : Env → M D} {mq : Env → M Bool} {mi : Env → M Src} {scope : Scope} {own : List (Str × Nat)}
theorem w_ts_nil  : WTs X [] (tT J X.K E bYes) := ⟨ts_nil ⟩
end
section -- SH
variable {J : Ip} {E : XE} {X : Cx} {e tg iter : Expr} {body : List Stmt} {pos : Pos} {ma : Env → M D} {mc : Env → M Bool} {mb : Env → M Fl} {mi : Env → M Src} {as : Env → M (List D)}
theorem w_s_for {g : TG} {vs : List Nat} {t : Tg} (hp : PassesOwn (model X.prog X.w) X.A X.env X.xe) (hc : X.calm = true) (hi : WI X tg iter (tI J X.K E mi)) (hg : PG X tg g) (hk : GOk J X.K g vs t) (hb : WSs X body (tS J X.K E mb)) (hs : ∀ x, foldedSetIterable iter X.env x = pure x := by intro _; rfl) : WS X (.For tg iter body [] pos) (tS J X.K E (sFor mi t mb)) := ⟨s_for (hp := hp) (hc := hc) (hi := hi.h) (hg := hg) (hk := hk) (hb := hb.h) (hs := hs)⟩
end
section -- SH
variable {J : Ip} {E : XE} {X : Cx} {e c : Expr} {st : Stmt} {sts a b : List Stmt} {pos : Pos} {ma : Env → M D} {mc : Env → M Bool} {m1 m2 : Env → M Fl}
theorem w_s_asg {tg : Expr} {g : TG} {vs : List Nat} {t : Tg} (he : WE X e (tM J X.K E ma)) (hg : PG X tg g) (hk : GOk J X.K g vs t) (hs : swapsWithSole [tg] e pos.line X.env = pure false := by rfl) (hw : swappedStores [tg] e X.env = pure none := by rfl) (h1 : (assignEach [tg] X.env).map (·.2) = [assign tg X.env] := by rfl) : WS X (.Assign [tg] e pos) (tS J X.K E (sAsg ma t)) := ⟨s_asg (he := he.h) (hg := hg) (hk := hk) (hs := hs) (hw := hw) (h1 := h1)⟩
end
section -- SH
variable {J : Ip} {E : XE} {X : Cx} {e tg iter : Expr} {body : List Stmt} {pos : Pos} {ma : Env → M D} {mc : Env → M Bool} {mb : Env → M Fl} {mi : Env → M Src} {as : Env → M (List D)}
theorem w_i_val (h : WE X e (tM J X.K E ma)) : WI X tg e (tI J X.K E (iV ma)) := ⟨i_val h.h (pi_list h.h) (pi_tup h.h)⟩
end
section -- SH
variable {J : Ip} {E : XE} {X : Cx} {e a b c : Expr} {es : List Expr} {pos : Pos} {ma mb mc : Env → M D} {tA' tB' tC' : Env → M Bool} {as : Env → M (List D)}
theorem w_e_and {rest : List Expr} (ha : WE X a (tM J X.K E ma)) (hb : WE X (.BoolOp .And (b :: rest) pos) (tM J X.K E mb)) : WE X (.BoolOp .And (a :: b :: rest) pos) (tM J X.K E (eAnd ma mb)) := ⟨e_and (ha := ha.h) (hb := hb.h)⟩
end
section -- SH
variable {J : Ip} {E : XE} {X : Cx} {e a b c : Expr} {es : List Expr} {pos : Pos} {ma mb mc : Env → M D} {tA' tB' tC' : Env → M Bool} {as : Env → M (List D)}
theorem w_w_and {rest : List Expr} (ha : WT X a (tT J X.K E tA')) (hb : WW X (.BoolOp .And (b :: rest) pos) (tT J X.K E tB')) : WW X (.BoolOp .And (a :: b :: rest) pos) (tT J X.K E (bAnd tA' tB')) := ⟨w_and (ha := ha.h) (hb := hb.h)⟩
end
section -- SH
variable {J : Ip} {E : XE} {X : Cx} {e tg iter : Expr} {body : List Stmt} {pos : Pos} {ma : Env → M D} {mc : Env → M Bool} {mb : Env → M Fl} {mi : Env → M Src} {as : Env → M (List D)}
theorem w_i_rng1 {a : Expr} {p cp : Pos} (hg : Gl X "range") (hm : X.mg "range" = none) (ha : WA X [a] (tA J X.K E as)) (hs : starEach [a] X.env = [(false, eval a X.env)] := by rfl) : WI X tg (.Call (.Name "range" p) [a] [] cp) (tI J X.K E (iR1 as)) := ⟨i_rng1 (hg := hg) (hm := hm) (ha := ha.h) (hs := hs)⟩
end
section -- SH
variable {J : Ip} {E : XE} {X : Cx} {e a b c : Expr} {es : List Expr} {pos : Pos} {ma mb mc : Env → M D} {tA' tB' tC' : Env → M Bool} {as : Env → M (List D)}
theorem w_e_non {j} : WE X (.Constant .none j pos) (tM J X.K E (eC .non)) := ⟨e_non ⟩
end
section -- SH
variable {J : Ip} {E : XE} {X : Cx} {e o i : Expr} {es : List Expr} {pos p apos cpos tpos : Pos} {ma mo mi : Env → M D} {as : Env → M (List D)} {id : String} {name : Str}
theorem w_e_m {f : D → List D → M D} {r : V → List V → Hp → VK → Prop} (slot : Slot "list" name id) (hty : typeOf (.builtin id) = pure (.type "method_descriptor")) (hm : MtR X id r) (hr : ∀ H μ S x ds v vs Q, Rp J X.K H μ S → RD J X.K H μ x v → RDs J X.K H μ ds vs → Post J X.K E H μ (f x ds S) Q → r v vs H Q) (ho : WE X o (tM J X.K E mo)) (ha : WA X (e :: es) (tA J X.K E as)) (hbase : attributeBase o name X.env (eval o X.env) = eval o X.env := by rfl) (hfew : ((backTo cpos (starEach (e :: es) X.env)).all (fun x => !x.1) && (backToKw cpos (keywordEach [] X.env)).all (fun x => x.1.isSome)
      && decide ((e :: es).length + ([] : List Keyword).length + (if ([] : List Keyword).isEmpty then 0 else 1) < 30)) = true := by rfl) (hline : (apos.endLine == cpos.line) = true := by rfl) (hs : starEach (e :: es) X.env = (false, eval e X.env) :: starEach es X.env := by rfl) (hplain : (backTo cpos (starEach es X.env)).any (·.1) = false := by rfl) : WE X (.Call (.Attribute o name apos) (e :: es) [] cpos) (tM J X.K E (eM f mo as)) := ⟨e_m (slot := slot) (hty := hty) (hm := hm) (hr := hr) (ho := ho.h) (ha := ha.h) (hbase := hbase) (hfew := hfew) (hline := hline) (hs := hs) (hplain := hplain)⟩
end
section -- SH
variable {J : Ip} {X : Cx} {k k' : Nat} {f : Addr} {fd : FuncData} {ps : List Str} {fm : List D → M D} {x : Str} {p cpos : Pos} {e : Expr} {es : List Expr} {as : Env → M (List D)}
theorem w_e_cal (C : Cal J X.prog X.w X.K X.mg X.base x f fd k ps fm) (hr : Room k' X.A) (hle : k ≤ k') (hg : Gl X x) (hn : ∀ ρ S ds S1, as ρ S = .ok ds S1 → ds.length = ps.length) (ha : WA X (e :: es) (tA J X.K noX as)) (hdb : (x == ("__debug__" : Str)) = false := by decide) (he : starEach (e :: es) X.env = (false, eval e X.env) :: starEach es X.env := by rfl) (hpl : (backTo cpos (starEach es X.env)).any (·.1) = false := by rfl) : WE X (.Call (.Name x p) (e :: es) [] cpos) (tM J X.K noX (eA fm as)) := ⟨e_cal (C := C) (hr := hr) (hle := hle) (hg := hg) (hn := hn) (ha := ha.h) (hdb := hdb) (he := he) (hpl := hpl)⟩
end
section -- SX
variable {J : Ip} {X : Cx} {E : XE} {c : Nat} {C : Addr} {x : Str} {np cpos pos : Pos} {e0 : Expr} {rest : List Expr} {as : SH.Env → M (List D)}
theorem w_s_raise (hx : XOk J X E) (hc : J.cls c = .ref C) (q : PySem.W.excIn X.K C bmV newV = true) (hg : Gl X x) (hm : X.mg x = some (.ref C)) (ha : WA X (e0 :: rest) (tA J X.K E as)) (hn : ∀ ρ S ds S1, as ρ S = .ok ds S1 → ds.length ≤ 1000) (hdb : (x == ("__debug__" : Str)) = false := by decide) (he : starEach (e0 :: rest) X.env = (false, eval e0 X.env) :: starEach rest X.env := by rfl) (hpl : (backTo cpos (starEach rest X.env)).any (·.1) = false := by rfl) : WS X (.Raise (some (.Call (.Name x np) (e0 :: rest) [] cpos)) none pos) (tS J X.K E (sRaise c as)) := ⟨s_raise (hx := hx) (hc := hc) (q := q) (hg := hg) (hm := hm) (ha := ha.h) (hn := hn) (hdb := hdb) (he := he) (hpl := hpl)⟩
end
section -- SX
end
section -- SH
variable {J : Ip} {E : XE} {X : Cx} {e a b c : Expr} {es : List Expr} {pos : Pos} {ma mb mc : Env → M D} {tA' tB' tC' : Env → M Bool} {as : Env → M (List D)}
theorem w_w_and1 (ha : WT X a (tT J X.K E tA')) : WW X (.BoolOp .And [a] pos) (tT J X.K E tA') := ⟨w_and1 (ha := ha.h)⟩
end
section -- SH
variable {J : Ip} {E : XE} {X : Cx} {e o i : Expr} {es : List Expr} {pos p apos cpos tpos : Pos} {ma mo mi : Env → M D} {as : Env → M (List D)} {id : String} {name : Str}
theorem w_s_sub (he : WE X e (tM J X.K E ma)) (ho : WE X o (tM J X.K E mo)) (hi : WE X i (tM J X.K E mi)) (hg : PG X (.Subscript o i tpos) (gSub (tM J X.K E mo) (tM J X.K E mi) rSetL) := by exact pg_sub (by assumption) (by assumption) set_list) (hs : swapsWithSole [.Subscript o i tpos] e pos.line X.env = pure false := by rfl) (hw : swappedStores [.Subscript o i tpos] e X.env = pure none := by rfl) (h1 : (assignEach [.Subscript o i tpos] X.env).map (·.2) = [assign (.Subscript o i tpos) X.env] := by rfl) : WS X (.Assign [.Subscript o i tpos] e pos) (tS J X.K E (sSub ma mo mi)) := ⟨s_sub (he := he.h) (ho := ho.h) (hi := hi.h) (hg := hg) (hs := hs) (hw := hw) (h1 := h1)⟩
end
section -- SH
variable {J : Ip} {E : XE} {X : Cx} {e tg iter : Expr} {body : List Stmt} {pos : Pos} {ma : Env → M D} {mc : Env → M Bool} {mb : Env → M Fl} {mi : Env → M Src} {as : Env → M (List D)}
theorem w_i_rng2 {a b : Expr} {p cp : Pos} (hg : Gl X "range") (hm : X.mg "range" = none) (ha : WA X [a, b] (tA J X.K E as)) (hs : starEach [a, b] X.env = [(false, eval a X.env), (false, eval b X.env)] := by rfl) (hs2 : starEach [b] X.env = [(false, eval b X.env)] := by rfl) : WI X tg (.Call (.Name "range" p) [a, b] [] cp) (tI J X.K E (iR2 as)) := ⟨i_rng2 (hg := hg) (hm := hm) (ha := ha.h) (hs := hs) (hs2 := hs2)⟩
end
section -- SH
variable {J : Ip} {E : XE} {X : Cx} {e a b c : Expr} {es : List Expr} {pos : Pos} {ma mb mc : Env → M D} {tA' tB' tC' : Env → M Bool} {as : Env → M (List D)}
theorem w_e_or {rest : List Expr} (ha : WE X a (tM J X.K E ma)) (hb : WE X (.BoolOp .Or (b :: rest) pos) (tM J X.K E mb)) : WE X (.BoolOp .Or (a :: b :: rest) pos) (tM J X.K E (eOr ma mb)) := ⟨e_or (ha := ha.h) (hb := hb.h)⟩
end
section -- SH
variable {J : Ip} {E : XE} {X : Cx} {e a b c : Expr} {es : List Expr} {pos : Pos} {ma mb mc : Env → M D} {tA' tB' tC' : Env → M Bool} {as : Env → M (List D)}
theorem w_e_not (ha : WE X a (tM J X.K E ma)) : WE X (.UnaryOp .Not a pos) (tM J X.K E (eNot ma)) := ⟨e_not (ha := ha.h)⟩
end
section -- SH
variable {J : Ip} {E : XE} {X : Cx} {elt tg iter : Expr} {ifs : List Expr} {pos : Pos} {me : Env → M D} {mq : Env → M Bool} {mi : Env → M Src} {scope : Scope} {own : List (Str × Nat)}
theorem w_e_lc {g : TG} {t : Tg} (hc : X.calm = true) (hN : X.N.Nodup) (hi : WI X tg iter (tI J X.K E mi)) (ok : BlkOk X.N X.env.scope scope own) (hk : GOk J X.K g (own.map (·.2)) t) (hg : ∀ (s : Shared) (H : Hp) (C : Addr) (cl : List (Str × Addr)) (fp : List Addr), PG (X.blk s H scope (compEnvC scope cl C X.env) fp) tg g) (ht : ∀ (s : Shared) (H : Hp) (C : Addr) (cl : List (Str × Addr)) (fp : List Addr), WTs (X.blk s H scope (compEnvC scope cl C X.env) fp) ifs (tT J X.K noX mq)) (he : ∀ (s : Shared) (H : Hp) (C : Addr) (cl : List (Str × Addr)) (fp : List Addr), WE (X.blk s H scope (compEnvC scope cl C X.env) fp) elt (tM J X.K noX me)) (hs : ∀ x, foldedSetIterable iter X.env x = pure x := by intro _; rfl) : WE X (.ListComp elt [⟨tg, iter, ifs, 0⟩] scope pos) (tM J X.K E (eLc mi t mq me (own.map (·.2)))) := ⟨e_lc (hc := hc) (hN := hN) (hi := hi.h) (ok := ok) (hk := hk) (hg := hg) (ht := by intros; refine WTs.h ?_; apply ht <;> assumption) (he := by intros; refine WE.h ?_; apply he <;> assumption) (hs := hs)⟩
end
section -- SX
variable {X : Cx} {EX : XK} {E : XE} {tabs : List Addr} {lq : List (Addr × Str)} {cls fns : List Addr} {lam : List SX.LamI} {f c P : Addr} {Nw : List Str} {qw wn : Str} {sw scope : Scope} {cdw : Value} {k k' kb it : Nat} {mrest : SH.Env → M Fl} {mb : SH.Env → M D} {params : Arguments} {body : Expr} {p lpos cpos : Pos}
theorem w_e_ref (V : Lv X EX) (hfn : ∀ x, X.fn x = true) (hx : XOk (J1 tabs lq cls fns lam) X E) (hw : WordRun (J1 tabs lq cls fns lam) cls.length X.prog X.w X.K X.mg X.base f Nw qw sw cdw k it mrest) (hr : Room k' X.A) (hle : k + 1 ≤ k') (hg : Gl X wn) (hm : X.mg wn = some (.ref f)) (hk : PySem.W.keepIn X.K (.ref f) = true) (hcode : X.env.code = .ref c) (hcd : SG.CodeHd X.base c P) (hP : P ∈ tabs) (hlq : lq.lookup P = some (X.env.qual ++ "<lambda>")) (hbm : SG.Bm X.base X.mg) (S : LamSc scope) (hfree : ∀ y ∈ scope.names, y.2 = .free → X.env.scope.names.lookup y.1 = some .cell ∨ X.env.scope.names.lookup y.1 = some .free) (hdef : defaultsOf params X.env = ([], [])) (hbd : ∀ pm cl c' ctv, bindArgs (PySem.W.kla_fn "<lambda>" (X.env.qual ++ "<lambda>") params body scope cl pm (.ref c') ctv) ⟨[], []⟩ = pure []) (hlam : ∀ (s : Shared) (H : Hp) (E0 : XK) (s1 : Shared) (H1 : Hp) (a c' : Addr) (cl : List (Str × Addr)) (E1 : XK),
      Room kb (lamCx (cxOf (CXe X.prog X.w) X.prog X.w X.K X.mg X.base Nw qw sw f cdw X.A X.stack s H E0) X.N s1 H1 (PySem.W.envX (X.env.qual ++ "<lambda>") scope s1.heap.objs.size a (.ref c') cl) E1).A →
      XOk (J1 tabs lq cls fns lam) (lamCx (cxOf (CXe X.prog X.w) X.prog X.w X.K X.mg X.base Nw qw sw f cdw X.A X.stack s H E0) X.N s1 H1 (PySem.W.envX (X.env.qual ++ "<lambda>") scope s1.heap.objs.size a (.ref c') cl) E1) (fun c H1 => E1 ((J1 tabs lq cls fns lam).cls c) none H1) →
      WE (lamCx (cxOf (CXe X.prog X.w) X.prog X.w X.K X.mg X.base Nw qw sw f cdw X.A X.stack s H E0) X.N s1 H1 (PySem.W.envX (X.env.qual ++ "<lambda>") scope s1.heap.objs.size a (.ref c') cl) E1) body (tM (J1 tabs lq cls fns lam) X.K (fun c H1 => E1 ((J1 tabs lq cls fns lam).cls c) none H1) mb)) (hkb : kb + 1 ≤ k) (hdb : (wn == ("__debug__" : Str)) = false := by decide) (he : starEach [.Lambda params body scope lpos] X.env = (false, eval (.Lambda params body scope lpos) X.env) :: starEach [] X.env := by rfl) (hpl : (backTo cpos (starEach [] X.env)).any (·.1) = false := by rfl) : WE X (.Call (.Name wn p) [.Lambda params body scope lpos] [] cpos) (tM (J1 tabs lq cls fns lam) X.K E (eRef cls.length (wordF Nw.length it mrest) mb)) := ⟨e_ref (V := V) (hfn := hfn) (hx := hx) (hw := hw) (hr := hr) (hle := hle) (hg := hg) (hm := hm) (hk := hk) (hcode := hcode) (hcd := hcd) (hP := hP) (hlq := hlq) (hbm := hbm) (S := S) (hfree := hfree) (hdef := hdef) (hbd := hbd) (hlam := by intros; refine WE.h ?_; apply hlam <;> assumption) (hkb := hkb) (hdb := hdb) (he := he) (hpl := hpl)⟩
end
section -- SH
variable {J : Ip} {E : XE} {X : Cx} {elt tg iter : Expr} {ifs : List Expr} {pos : Pos} {me : Env → M D} {mq : Env → M Bool} {mi : Env → M Src} {scope : Scope} {own : List (Str × Nat)}
theorem w_ts_one {c : Expr} (h : WT X c (tT J X.K E mq)) : WTs X [c] (tT J X.K E mq) := ⟨ts_one (h := h.h)⟩
end
section -- SH
variable {J : Ip} {E : XE} {X : Cx} {elt tg iter : Expr} {ifs : List Expr} {pos : Pos} {me : Env → M D} {mq : Env → M Bool} {mi : Env → M Src} {scope : Scope} {own : List (Str × Nat)}
theorem w_s_setLc {g : TG} {t : Tg} {i : Nat} {y : Str} {py spos : Pos} (hc : X.calm = true) (hN : X.N.Nodup) (hy : X.N[i]? = some y) (hyl : X.env.scope.names.lookup y = some .local) (hsw : swapsWith (.ListComp elt [⟨tg, iter, ifs, 0⟩] scope pos) (some (.Name y py)) spos.line X.env = pure true) (hi : WI X tg iter (tI J X.K E mi)) (ok : BlkOk X.N X.env.scope scope own) (hk : GOk J X.K g (own.map (·.2)) t) (hg : ∀ (s : Shared) (H : Hp) (C : Addr) (cl : List (Str × Addr)) (fp : List Addr), PG (X.blk s H scope (compEnvC scope cl C X.env) fp) tg g) (ht : ∀ (s : Shared) (H : Hp) (C : Addr) (cl : List (Str × Addr)) (fp : List Addr), WTs (X.blk s H scope (compEnvC scope cl C X.env) fp) ifs (tT J X.K noX mq)) (he : ∀ (s : Shared) (H : Hp) (C : Addr) (cl : List (Str × Addr)) (fp : List Addr), WE (X.blk s H scope (compEnvC scope cl C X.env) fp) elt (tM J X.K noX me)) (hs : ∀ x, foldedSetIterable iter X.env x = pure x := by intro _; rfl) : WS X (.Assign [.Name y py] (.ListComp elt [⟨tg, iter, ifs, 0⟩] scope pos) spos) (tS J X.K E (sAsg (eLc mi t mq me (own.map (·.2))) (tgN i))) := ⟨s_setLc (hc := hc) (hN := hN) (hy := hy) (hyl := hyl) (hsw := hsw) (hi := hi.h) (ok := ok) (hk := hk) (hg := hg) (ht := by intros; refine WTs.h ?_; apply ht <;> assumption) (he := by intros; refine WE.h ?_; apply he <;> assumption) (hs := hs)⟩
end
section -- SH
variable {J : Ip} {E : XE} {X : Cx} {elt tg iter : Expr} {ifs : List Expr} {pos p cpos : Pos} {me : Env → M D} {mq : Env → M Bool} {mi : Env → M Src} {scope : Scope} {own : List (Str × Nat)} {g : TG} {t : Tg} {c P : Addr} {k : Nat}
end
section -- SH
variable {J : Ip} {E : XE} {X : Cx} {e a b c : Expr} {es : List Expr} {pos : Pos} {ma mb mc : Env → M D} {tA' tB' tC' : Env → M Bool} {as : Env → M (List D)}
theorem w_e_chain {op op' : CmpOp} {f f' : D → D → M D} (ho : OpM J E X (compareOp op) f) (ho' : OpM J E X (compareOp op') f') (ha : WE X a (tM J X.K E ma)) (hb : WE X b (tM J X.K E mb)) (hc : WE X c (tM J X.K E mc)) (hm : lastMarks [op, op'] [b, c] = false := by with_unfolding_all rfl) : WE X (.Compare a [op, op'] [b, c] pos) (tM J X.K E (eCh f f' ma mb mc)) := ⟨e_chain (ho := ho) (ho' := ho') (ha := ha.h) (hb := hb.h) (hc := hc.h) (hm := hm)⟩
end
section -- SH
variable {J : Ip} {E : XE} {X : Cx} {elt tg iter : Expr} {ifs : List Expr} {pos p cpos : Pos} {me : Env → M D} {mq : Env → M Bool} {mi : Env → M Src} {scope : Scope} {own : List (Str × Nat)} {g : TG} {t : Tg} {c P : Addr} {k : Nat}
theorem w_e_all (hc : X.calm = true) (hN : X.N.Nodup) (hr : Room k X.A) (hi : WI X tg iter (tI J X.K E mi)) (ok : BlkOk X.N X.env.scope scope own) (hcell : ∀ y ∈ scope.names, y.2 ≠ .cell) (h0 : scope.names.lookup (".0" : Str) = some NameKind.local) (hco : scope.isCoroutine = false) (hcode : X.env.code = .ref c) (hcd : SG.CodeHd X.base c P) (hP : P ∈ J.tabs) (hfp : J.free P) (hbm : SG.Bm X.base X.mg) (hgl : Gl X "all") (hm : X.mg "all" = none) (hk : GOk J X.K g (own.map (·.2)) t) (hg : ∀ s H cl C code bi fp A', PG (SG.gcx X s H (genEnv scope cl C code bi X.env) fp A') tg g) (ht : ∀ s H cl C code bi fp it, WTs (SG.gcx X s H (genEnv scope cl C code bi X.env) fp ((A2 X.A).over (SG.gcode elt tg iter ifs scope pos it (genEnv scope cl C code bi X.env)) [])) ifs (tT J X.K noX mq)) (he : ∀ s H cl C code bi fp it, WE (SG.gcx X s H (genEnv scope cl C code bi X.env) fp ((A2 X.A).over (SG.gcode elt tg iter ifs scope pos it (genEnv scope cl C code bi X.env)) [])) elt (tM J X.K noX me)) (hs : ∀ x, genFold iter X.env x = pure x := by intro _; rfl) : WE X (.Call (.Name "all" p) [.GeneratorExp elt [⟨tg, iter, ifs, 0⟩] scope pos] [] cpos) (tM J X.K E (eAllG true mi t mq me (own.map (·.2)))) := ⟨e_all (hc := hc) (hN := hN) (hr := hr) (hi := hi.h) (ok := ok) (hcell := hcell) (h0 := h0) (hco := hco) (hcode := hcode) (hcd := hcd) (hP := hP) (hfp := hfp) (hbm := hbm) (hgl := hgl) (hm := hm) (hk := hk) (hg := hg) (ht := by intros; refine WTs.h ?_; apply ht <;> assumption) (he := by intros; refine WE.h ?_; apply he <;> assumption) (hs := hs)⟩
end
section -- SX
variable {J : Ip} {X : Cx} {E : XE} {a b c : Expr} {pos : Pos} {ma mb mc : SH.Env → M D}
end
end SH
set_option Elab.async false
set_option linter.all false
set_option maxRecDepth 100000
set_option maxHeartbeats 4000000
namespace SX
open PySem PySem.Spec L2 SH PyProof.Rows
open Classical
section
variable {J : Ip} {P : Program} {w : World} {K : PySem.W.Frag} {mg : Str → Option Value} {base : Heap}
theorem fn_okW {x qual : Str} {st : Stmt} {f c : Addr} {fd : FuncData} {N ps : List Str} {k : Nat} {ms : SH.Env → M Fl} (F : FunC K x qual st f fd c) (Sc : FnScope N ps (defScope st))
    (hb : ∀ (A : Around) (outer : List PySem.Env) (s : Shared) (H : Hp) (E : XK), Room k (A.deeper (PyProof.Rows.envOfC qual (defScope st) s.heap.objs.size f (.ref c))) →
      XOk J (cxOf (CXe P w) P w K mg base N qual (defScope st) f (.ref c) A outer s H E) (fun c H' => E (J.cls c) none H') →
      WSs (cxOf (CXe P w) P w K mg base N qual (defScope st) f (.ref c) A outer s H E) (defBody st) (tS J K (fun c H' => E (J.cls c) none H') ms)) :
    FnOk P w K mg base (CXe P w) (k + 1) f fd ps (spX J K ps.length (runF N.length ms)) :=
  fn_okX F Sc fun A outer s H E hr hx => (hb A outer s H E hr hx).h
end
section
variable {tabs : List Addr} {lq : List (Addr × Str)} {cls fns : List Addr} {lam : List LamI} {P : Program} {w : World} {K : PySem.W.Frag} {mg : Str → Option Value} {base : Heap}
theorem word_runW {wn qw : Str} {st : Stmt} {f c CH : Addr} {fd : FuncData} {Nw : List Str} {k ie it : Nat} {x en tn cn : Str} {mrest : SH.Env → M Fl} {tp0 cp0 ap0 np cpos p1 hnp tp ep ap hp pos : Pos} {cj : Nat} {rest : List Stmt}
    (F : FunC K wn qw st f fd c) (Sc : FnScope Nw [x] (defScope st)) (hb : ∀ (s : Shared) (u : Value), BindsTo s fd ⟨[u], []⟩ [(x, u)]) (T : ErrT K CH cls)
    (hbody : defBody st = .Assign [.Name tn tp0] (.Constant .none cj cp0) ap0 :: .Try [.Expr (.Call (.Name x np) [] [] cpos) p1] [.ExceptHandler (some (.Name cn hnp)) (some en) [.Assign [.Name tn tp] (.Name en ep) ap] hp] [] [] pos :: rest)
    (h0 : Nw[0]? = some x) (hx : (defScope st).names.lookup x = some .local) (hie : Nw[ie]? = some en) (hit : Nw[it]? = some tn) (hen : (defScope st).names.lookup en = some .local) (htn : (defScope st).names.lookup tn = some .local) (hne : ie ≠ it) (hi0 : it ≠ 0) (hie0 : ie ≠ 0)
    (gH : (defScope st).names.lookup cn = some .globalImplicit) (mH : mg cn = some (.ref CH)) (hdb : (cn == ("__debug__" : Str)) = false) (hd1 : (en == ("__debug__" : Str)) = false) (hd2 : (en == ("__classdict__" : Str)) = false) (hd3 : (x == ("__debug__" : Str)) = false)
    (hsw : ∀ env, swapsWith (.Name en ep) (some (.Name tn tp)) ap.line env = pure false) (hsw1 : ∀ env, swapsWith (.Call (.Name x np) [] [] cpos) none p1.line env = pure false) (hsw2 : ∀ env, swapsWith (.Constant .none cj cp0) (some (.Name tn tp0)) ap0.line env = pure false)
    (hrest : ∀ (A : Around) (outer : List PySem.Env) (s : Shared) (H : Hp) (E : XK), Room k (A.deeper (envOfC qw (defScope st) s.heap.objs.size f (.ref c))) →
      XOk (J1 tabs lq cls fns lam) (cxOf (CXe P w) P w K mg base Nw qw (defScope st) f (.ref c) A outer s H E) (fun c H' => E ((J1 tabs lq cls fns lam).cls c) none H') →
      WSs (cxOf (CXe P w) P w K mg base Nw qw (defScope st) f (.ref c) A outer s H E) rest (tS (J1 tabs lq cls fns lam) K (fun c H' => E ((J1 tabs lq cls fns lam).cls c) none H') mrest)) :
    WordRun (J1 tabs lq cls fns lam) cls.length P w K mg base f Nw qw (defScope st) (.ref c) k it mrest :=
  word_run (ie := ie) F Sc hb T hbody h0 hx hie hit hen htn hne hi0 hie0 gH mH hdb hd1 hd2 hd3 hsw hsw1 hsw2 fun A outer s H E hr hx' => (hrest A outer s H E hr hx').h
end
end SX
set_option Elab.async false
set_option linter.all false
set_option maxRecDepth 100000
set_option maxHeartbeats 4000000
namespace SX
open PySem PySem.Spec L2 SH
def truD : D → M Bool := fun d S => match d with
  | .non => .ok false S
  | .bl b => .ok b S
  | .int i => .ok (i != 0) S
  | .tup xs => .ok (!xs.isEmpty) S
  | .con xs => .ok (!xs.isEmpty) S
  | .loc l => (match S[l]? with
    | some (.lst xs) => .ok (!xs.isEmpty) S
    | _ => .bad)
  | _ => .bad
def bT (a : SH.Env → M D) : SH.Env → M Bool := fun ρ S => (a ρ S).bind truD
section
variable {J : Ip} {E : XE} {X : Cx} {e : Expr}
theorem isEmpty_rds {K : PySem.W.Frag} {H : Hp} {μ : List Addr} {ds : List D} {vs : List V} (r : RDs J K H μ ds vs) : (!ds.isEmpty) = !vs.isEmpty := by cases r <;> rfl
theorem tru_of {m : SH.Env → M D} {σ : L2.St} {H : Hp} {Q : Bool → Hp → Prop} (h : tT J X.K E (bT m) σ H Q) : tM J X.K E m σ H fun x H' => ∃ k, TruV X.K x H' k ∧ Q k H' := by
  obtain ⟨μ, S, ρ, rp, re, p⟩ := h
  refine ⟨μ, S, ρ, rp, re, Post.mono (PostB.step p) ?_⟩
  rintro v H1 ⟨μ1, S1, d, x1, rp1, rd1, p1⟩
  unfold truD at p1
  cases rd1 with
  | non => exact ⟨false, rfl, p1 μ1 H1 .refl rp1⟩
  | bl b => exact ⟨b, rfl, p1 μ1 H1 .refl rp1⟩
  | int i => exact ⟨i != 0, rfl, p1 μ1 H1 .refl rp1⟩
  | str s => exact p1.elim
  | tup h r => exact ⟨_, .inr (.inl ⟨_, h, isEmpty_rds r⟩), p1 μ1 H1 .refl rp1⟩
  | con h r => exact ⟨_, .inl ⟨_, h.sq, isEmpty_rds r⟩, p1 μ1 H1 .refl rp1⟩
  | loc h =>
    rename_i l a
    dsimp only at p1
    split at p1
    · rename_i xs hs
      obtain ⟨vs, h1, h2⟩ := rp1.lst h hs
      exact ⟨_, .inl ⟨_, SqL.of h1, isEmpty_rds h2⟩, p1 μ1 H1 .refl rp1⟩
    · exact p1.elim
  | ext h => exact p1.elim
  | ty n => exact p1.elim
theorem t_tru {m : SH.Env → M D} (h : PE X e (tM J X.K E m)) (he : ∀ whole, isTrue e X.env whole = (do let v ← whole; standAt e.pos; holding [v] (truthy v)) := by intro _; rfl) : PT X e (tT J X.K E (bT m)) :=
  PT.imp (pt_truth h he) fun σ H Q q => tru_of q
end
section
variable {J : Ip} {P : Program} {w : World} {K : PySem.W.Frag} {mg : Str → Option Value} {base : Heap}
end
end SX
namespace SH
open PySem PySem.Spec L2 SX
section
variable {J : Ip} {E : XE} {X : Cx} {e : Expr}
theorem w_t_tru {m : SH.Env → M D} (h : WE X e (tM J X.K E m)) (he : ∀ whole, isTrue e X.env whole = (do let v ← whole; standAt e.pos; holding [v] (truthy v)) := by intro _; rfl) : WT X e (tT J X.K E (bT m)) := ⟨t_tru h.h he⟩
end
end SH
set_option Elab.async false
set_option linter.all false
set_option maxRecDepth 100000
set_option maxHeartbeats 4000000
namespace SX
open PySem PySem.Spec L2 SH
open Sem (wp)
open AutoSeq1 (wpAny_loadPart')
section
variable {prog : Program} {w : World} {A : Around} {E : Value → Shared → Prop} {s : Shared}
end
section
variable {X : Cx} {e1 e2 : Expr} {ta : TA} {p p1 pos1 pos : Pos}
def tTupR (ta : TA) : TE := fun σ H Q => ta σ H fun vs H1 => ∃ i j : Int, vs = [.int i, .int j] ∧ 0 ≤ i ∧ i ≤ 1000 ∧ 0 ≤ j ∧ j ≤ 1000 ∧ ∀ l, H1 l = none → Q (.ref l) (upd H1 l (.tup ((List.range (j - i).toNat).map fun k => V.int (i + (k : Nat)))))
end
end SX
namespace SH
open PySem PySem.Spec L2
def trD : List D → M D := fun ds S => match ds with
  | [.int i, .int j] => gd (0 ≤ i ∧ i ≤ 1000 ∧ 0 ≤ j ∧ j ≤ 1000) (.ok (.tup ((List.range (j - i).toNat).map fun k => D.int (i + (k : Nat)))) S)
  | _ => .bad
section
variable {J : Ip} {E : XE} {X : Cx} {e a : Expr} {pos p : Pos} {as : Env → M (List D)}
end
end SH
set_option Elab.async false
set_option linter.all false
set_option maxRecDepth 100000
set_option maxHeartbeats 4000000
namespace SG
open PySem PySem.Spec L2
open AutoSeq1 (wpAny_loadPart')
abbrev tupIt (l : Addr) : Obj := { cls := .type "tuple_iterator", data := .fields #[.ref l, .int 0 0] }
abbrev enuIt (n : Addr) : Obj := { cls := .type "enumerate", data := .fields #[.none, .bool false, .ref n, rawInt 0, .none, .none] }
section
variable {P : Program} {w : World} {A : Around} {E : Value → Shared → Prop} {s : Shared}
end
end SG
namespace SH
open PySem PySem.Spec L2
section
variable {J : Ip} {E : XE} {X : Cx} {a : Expr} {pos p tpos : Pos} {as : Env → M (List D)}
def iEnB (a : Env → M (List D)) : Env → M Src := fun ρ S => match a ρ S with
  | .ok [.tup xs] S1 => .ok ⟨enumD 0 xs, fun _ => True⟩ S1
  | _ => iEnL a ρ S
end
end SH
set_option Elab.async false
set_option linter.all false
set_option maxRecDepth 100000
set_option maxHeartbeats 4000000
namespace SH
open PySem PySem.Spec L2
section
variable {J : Ip} {E : XE} {X : Cx} {elt tg iter tg1 iter1 : Expr} {ifs ifs1 : List Expr} {pos : Pos} {me : Env → M D} {mq mq1 : Env → M Bool} {mi mi1 : Env → M Src} {scope : Scope} {own : List (Str × Nat)}
end
end SH
namespace SX
open PySem PySem.Spec L2 SH
structure FnT (J : Ip) (P : Program) (w : World) (K : PySem.W.Frag) (mg : Str → Option Value) (base : Heap) (fns : List Addr) (m k : Nat) (tbl : List (Option (List D → M D))) : Prop where
  get : ∀ (j : Nat) (f : Addr) (fm : List D → M D), fns[j]? = some f → tbl[j]? = some (some fm) → ∃ (x : Str) (fd : FuncData) (ps : List Str) (k1 : Nat), CalX J P w K mg base x f fd k1 ps fm ∧ k1 ≤ k ∧ ps.length = m
  len : tbl.length ≤ fns.length
section
variable {J : Ip} {P : Program} {w : World} {K : PySem.W.Frag} {mg : Str → Option Value} {base : Heap} {fns : List Addr} {m k : Nat} {tbl : List (Option (List D → M D))}
theorem fnt_nil : FnT J P w K mg base [] m k [] := ⟨fun j f fm e => by simp at e, Nat.le_refl _⟩
theorem fnt_cons {x : Str} {f a : Addr} {fd : FuncData} {ps : List Str} {k1 : Nat} {fm : List D → M D} (C : CalX J P w K mg base x f fd k1 ps fm) (ha : mg x = some (.ref a)) (hk : k1 ≤ k) (hm : ps.length = m) (r : FnT J P w K mg base fns m k tbl) : FnT J P w K mg base (a :: fns) m k (some fm :: tbl) := by
  have e : f = a := by rw [C.mg] at ha; cases ha; rfl
  subst e
  refine ⟨fun j f' fm' e1 e2 => ?_, by simpa using r.len⟩
  cases j with
  | zero => simp at e1 e2; subst e1 e2; exact ⟨x, fd, ps, k1, C, hk, hm⟩
  | succ j => exact r.get j f' fm' (by simpa using e1) (by simpa using e2)
end
def eCV (nc : Nat) (tbl : List (Option (List D → M D))) (mv : SH.Env → M D) (as : SH.Env → M (List D)) : SH.Env → M D := fun ρ S => (mv ρ S).bind fun d S1 => match d with
  | .ext k => if nc ≤ k then (match tbl[k - nc]? with
    | some (some fm) => (as ρ S1).bind fm
    | _ => .bad) else .bad
  | _ => .bad
section
variable {X : Cx} {E : XE} {tabs : List Addr} {lq : List (Addr × Str)} {cls fns : List Addr} {lam : List LamI} {m k : Nat} {tbl : List (Option (List D → M D))} {x : Str} {i j : Nat} {a : Addr} {p cpos pos : Pos} {e : Expr} {es : List Expr} {as : SH.Env → M (List D)}
theorem _root_.SH.w_e_fun {x : Str} (hg : Gl X x) (hm : X.mg x = some (.ref a)) (hj : fns[j]? = some a) (hd : (x == ("__debug__" : Str)) = false := by decide) : WE X (.Name x pos) (tM (J1 tabs lq cls fns lam) X.K E (eC (.ext (cls.length + j)))) := ⟨by
  intro pins s σ H Q I ⟨μ, S, ρ, rp, re, p⟩
  refine ld_glob I hg hm ?_ hd
  exact ⟨.ref a, H, I, rfl, p μ H _ .refl rp (.ext (.inr (.inl ⟨a, Nat.le_add_right _ _, by rw [Nat.add_sub_cancel_left]; exact hj, rfl⟩)))⟩⟩
theorem _root_.SH.w_e_calV (hx : XOk (J1 tabs lq cls fns lam) X E) (T : FnT (J1 tabs lq cls fns lam) X.prog X.w X.K X.mg X.base fns m k tbl) (hr : Room k X.A) (hN : X.N[i]? = some x) (hv : Vis X.env.scope x)
    (hn : ∀ ρ S ds S1, as ρ S = .ok ds S1 → ds.length = m) (ha : WA X (e :: es) (tA (J1 tabs lq cls fns lam) X.K E as)) (hd : (x == ("__debug__" : Str)) = false := by decide) (hcd : (x == ("__classdict__" : Str)) = false := by decide)
    (he : starEach (e :: es) X.env = (false, eval e X.env) :: starEach es X.env := by rfl) (hpl : (backTo cpos (starEach es X.env)).any (·.1) = false := by rfl) :
    WE X (.Call (.Name x p) (e :: es) [] cpos) (tM (J1 tabs lq cls fns lam) X.K E (eCV cls.length tbl (eV i) as)) := ⟨by
  intro pins s σ H Q I ⟨μ, S, ρ, rp, re, q⟩
  unfold eCV at q
  cases hvr : eV i ρ S with
  | exc c S1 =>
    unfold eV at hvr
    split at hvr <;> cases hvr
  | bad => rw [hvr] at q; exact q.elim
  | ok d S1 =>
    have hρ : ρ[i]? = some (some d) ∧ S1 = S := by
      unfold eV at hvr
      split at hvr
      · rename_i d' e'
        cases hvr
        exact ⟨e', rfl⟩
      · cases hvr
    obtain ⟨hρ, rfl⟩ := hρ
    rw [hvr] at q
    obtain ⟨v, hσ, rd⟩ := re.get i d hρ
    cases rd with
    | @ext kk v hext =>
      have q : Post (J1 tabs lq cls fns lam) X.K E H μ (if cls.length ≤ kk then (match tbl[kk - cls.length]? with | some (some fm) => (as ρ S1).bind fm | _ => .bad) else .bad) Q := q
      by_cases hkk : cls.length ≤ kk
      · rw [if_pos hkk] at q
        cases ht : tbl[kk - cls.length]? with
        | none => rw [ht] at q; exact q.elim
        | some o =>
          cases o with
          | none => rw [ht] at q; exact q.elim
          | some fm =>
            rw [ht] at q
            have htl := (List.getElem?_eq_some_iff.mp ht).1
            have hTl := T.len
            obtain ⟨hlt, _⟩ | ⟨f, _, hf, rfl⟩ | ⟨_, _, _, _, hge, _⟩ := hext
            case inl => omega
            case inr.inr => omega
            obtain ⟨x', fd, ps, k1, C, hk1, hps⟩ := T.get _ f fm hf ht
            refine wpAny_Call_Name_kw (wpAny_mono (pe_var (pos := p) hN hv hd hcd pins s σ H (fun v' H' => v' = .ref f ∧ H' = H) I ⟨_, hσ, rfl, rfl⟩) (fun u s1 hu => ?_) fun _ _ z => z)
            obtain ⟨v1, H1, I1, r1, rfl, rfl⟩ := hu
            obtain rfl : u = .ref f := r1
            have q2 : tA (J1 tabs lq cls fns lam) X.K E as σ H1 fun vs H2 => spX (J1 tabs lq cls fns lam) X.K ps.length fm (vs ++ []) H2 Q (lift (J1 tabs lq cls fns lam) E) := by
              refine ⟨μ, S1, ρ, rp, re, ?_⟩
              have q3 := Post.stepA q
              cases h : as ρ S1 with
              | exc c S2 => rw [h] at q3; exact q3
              | bad => rw [h] at q3; exact q3
              | ok ds S2 =>
                rw [h] at q3
                intro μ1 H2 vs x1 rp1 rds
                have p1 := Post.later x1 q
                rw [h] at p1
                rw [List.append_nil]
                exact ⟨by rw [← rds.length, hps]; exact hn _ _ _ _ h, μ1, S2, ds, rp1, rds, Post.xmono p1 fun c H' z => ⟨c, rfl, z⟩⟩
            refine PySem.W.callWith_K (h₀ := X.base) I1.ok.mod.kin C.kp (thn (ha.h cpos pins s1 σ H1 _ I1 q2) fun us s2 ⟨vs, H2, I2, r, q4⟩ => ⟨I2.kIn, ?_⟩) he hpl
            exact run_fn C.ok (hr.mono hk1) C.b .nil hx.pass I2 r q4
      · rw [if_neg hkk] at q; exact q.elim
    | non => exact q.elim
    | bl b => exact q.elim
    | int i => exact q.elim
    | str s => exact q.elim
    | tup h r => exact q.elim
    | con h r => exact q.elim
    | loc h => exact q.elim
    | ty n => exact q.elim⟩
end
end SX
namespace SH
open PySem PySem.Spec L2
def isi2D : List D → M D := fun ds S => match ds with
  | [x, .tup [.ty n, .ty n']] => match kdD S x, Kd.of n, Kd.of n' with
    | some a, some b, some b' => .ok (.bl (a.sub b || a.sub b')) S
    | _, _, _ => .bad
  | _ => .bad
section
variable {J : Ip} {E : XE} {X : Cx}
end
end SH
namespace SH
open PySem PySem.Spec L2
section
variable {J : Ip} {E : XE} {X : Cx} {x : Str} {f : Addr} {fd : FuncData} {k k' : Nat} {ps : List Str} {fm : List D → M D} {e : Expr} {as : Env → M (List D)} {p cpos : Pos}
end
end SH
namespace SH
open PySem PySem.Spec L2
def ltT : D → D → M D := fun x y S => match x, y with
  | .tup xs, .tup ys => (match intsO xs, intsO ys with
    | some ns, some ms => .ok (.bl (HT.lexLt ns ms)) S
    | _, _ => .bad)
  | _, _ => .bad
section
variable {J : Ip} {E : XE} {X : Cx}
end
end SH
namespace SH
open PySem PySem.Spec L2
def iZl (a : Env → M (List D)) : Env → M Src := fun ρ S => (a ρ S).bind fun ds S1 => match ds with
  | [.loc l, .loc m] => (match S1[l]?, S1[m]? with
    | some (.lst xs), some (.lst ys) => .ok ⟨zipD xs ys, fun S => S[l]? = some (.lst xs) ∧ S[m]? = some (.lst ys)⟩ S1
    | _, _ => .bad)
  | _ => .bad
def iZB (a : Env → M (List D)) : Env → M Src := fun ρ S => match a ρ S with
  | .ok [.tup xs, .tup ys] S1 => .ok ⟨zipD xs ys, fun _ => True⟩ S1
  | _ => iZl a ρ S
section
variable {J : Ip} {E : XE} {X : Cx} {e e2 : Expr} {pos p tpos : Pos} {elts : List Expr} {kk : Nat} {as : Env → M (List D)}
end
end SH
set_option Elab.async false
set_option linter.all false
set_option maxRecDepth 100000
set_option maxHeartbeats 4000000
namespace SH
open PySem PySem.Spec L2
section
variable {J : Ip} {E : XE} {X : Cx} {e : Expr} {pos : Pos} {ma : Env → M D}
def ipMul : TIp := fun x y H Q => ∃ i j, x = .int i ∧ y = .int j ∧ (-(2 ^ 64) < i ∧ i < 2 ^ 64) ∧ Q (.int (i * j)) H
def sMulN (i : Nat) (a : Env → M D) : Env → M Fl := fun ρ S => match ρ[i]? with
  | some (some (.int x)) => (a ρ S).bind fun v S1 => match v with
    | .int y => if -1000000000000000000 < x ∧ x < 1000000000000000000 then .ok (.nx (ρ.set i (some (.int (x * y))))) S1 else .bad
    | _ => .bad
  | _ => .bad
def minLD : List D → M D := fun ds S => match ds with
  | [.loc l] => (match S[l]? with
    | some (.lst xs) => (match intsO xs with
      | some (n :: ns) => .ok (.int (ns.foldl min n)) S
      | _ => .bad)
    | _ => .bad)
  | _ => .bad
def maxLD : List D → M D := fun ds S => match ds with
  | [.loc l] => (match S[l]? with
    | some (.lst xs) => (match intsO xs with
      | some (n :: ns) => .ok (.int (ns.foldl max n)) S
      | _ => .bad)
    | _ => .bad)
  | _ => .bad
end
end SH
set_option Elab.async false
set_option linter.all false
set_option maxRecDepth 100000
set_option maxHeartbeats 4000000
namespace L2
open PySem PySem.Spec PyProof.Rows
section
variable {X : Cx}
end
end L2
set_option Elab.async false
set_option linter.all false
set_option maxRecDepth 100000
set_option maxHeartbeats 4000000
namespace SX
open PySem PySem.Spec L2 SH PyProof.Rows
section
variable {X : Cx} {E : XE} {tabs : List Addr} {lq : List (Addr × Str)} {cls fns : List Addr} {lam : List LamI} {c P : Addr} {scope : Scope} {j : Nat} {params : Arguments} {body : Expr} {lpos : Pos}
theorem e_lam (hcode : X.env.code = .ref c) (hcd : SG.CodeHd X.base c P) (hP : P ∈ tabs) (hlq : lq.lookup P = some (X.env.qual ++ "<lambda>")) (hbm : SG.Bm X.base X.mg)
    (hfree : ∀ y ∈ scope.names, y.2 = .free → X.env.scope.names.lookup y.1 = some .cell ∨ X.env.scope.names.lookup y.1 = some .free) (hdef : defaultsOf params X.env = ([], []))
    (hL : lam[j]? = some ⟨params, body, scope, X.env.qual ++ "<lambda>", (X.mg "__name__").getD .none, cloFrom X.env.cells scope.names []⟩) :
    PE X (.Lambda params body scope lpos) (tM (J1 tabs lq cls fns lam) X.K E (eC (.ext (cls.length + fns.length + j)))) := by
  intro pins s σ H Q I ⟨μ, S0, ρ, rp, re, p⟩
  obtain ⟨ps, hPs, ht, tk⟩ := rp.tab P hP
  have hf : ∀ y ∈ scope.names, y.2 = .free → ∃ c, X.env.cells.lookup y.1 = some c := fun y hy e => by
    rcases hfree y hy e with z | z
    · exact I.ok.has _ (.inl z)
    · exact I.ok.has _ (.inr z)
  refine lam_make I hcode hcd hbm hPs ht (tk _ hlq) hf hdef fun a c' ctv H' s' hsz I' ob an co cs => ?_
  have rx : Rp (J1 tabs lq cls fns lam) X.K H' μ S0 ∧ Ext H μ H' μ := by
    rcases cs with rfl | ⟨hcn, rfl, ht'⟩
    · exact ⟨rp, .refl⟩
    · have hcP : P ≠ c' := fun z => by rw [← z, hPs] at hcn; cases hcn
      rw [upd_comm hcP]
      have e1 : (upd H c' (.ext (CodeO c' (X.env.qual ++ "<lambda>")))) P = some (.tbl ps) := by rw [upd_ne hcP]; exact hPs
      have rp1 := rp.laid (o := .ext (CodeO c' (X.env.qual ++ "<lambda>"))) hcn
      refine ⟨rp1.table e1 ht' fun qual hq cv hcv => ?_, (Ext.laid hcn).trans (Ext.table rp1 e1)⟩
      have e2 : (ps ++ #[rawInt lpos.line, rawInt lpos.col, Value.ref c']).toList = ps.toList ++ [rawInt lpos.line, rawInt lpos.col, .ref c'] := by simp
      rw [e2, show rawInt lpos.line = Value.int lpos.line 0 from rfl, show rawInt lpos.col = Value.int lpos.col 0 from rfl, codes_snoc _ ht] at hcv
      rcases List.mem_append.mp hcv with z | z
      · obtain ⟨c2, rfl, h2⟩ := tk qual hq cv z
        exact ⟨c2, rfl, (Ext.table (μ := μ) rp1 e1).imm _ _ ((Ext.laid (μ := μ) hcn).imm _ _ h2 rfl) rfl⟩
      · rw [List.mem_singleton.mp z]
        rw [hlq] at hq
        cases hq
        exact ⟨c', rfl, by rw [upd_ne (Ne.symm hcP)]; exact upd_same⟩
  obtain ⟨rp', x'⟩ := rx
  have I2 := track_new (o := .ext (LamO a (PySem.W.kla_obj "<lambda>" (X.env.qual ++ "<lambda>") params body scope (cloFrom X.env.cells scope.names []) ((X.mg "__name__").getD .none) c' ctv))) I I' an hsz ⟨ob, ⟨_, ob⟩, fun h1 h2 q k => k _ q⟩
  have hca : c' ≠ a := fun z => by rw [z, an] at co; cases co
  refine ⟨.ref a, _, I2, rfl, p μ _ _ (x'.trans (Ext.laid an)) (rp'.laid an) (.ext (.inr (.inr ⟨_, a, c', ctv, Nat.le_add_right _ _, by rw [Nat.add_sub_cancel_left]; exact hL, rfl, upd_same, ?_⟩)))⟩
  rw [upd_ne hca]
  exact co
end
def eRefV (nc nf : Nat) (fw : Option Nat → M D) (tbl : List (SH.Env → M D)) (i : Nat) : SH.Env → M D := fun ρ S => match ρ[i]? with
  | some (some (.ext k)) => if nc + nf ≤ k then (match tbl[k - (nc + nf)]? with
    | some mb => eRef nc fw mb ρ S
    | none => .bad) else .bad
  | _ => .bad
structure LamF (J : Ip) (X : Cx) (Nw : List Str) (qw : Str) (sw : Scope) (f : Addr) (cdw : Value) (kb : Nat) (own : List Nat) (L : LamI) (mb : SH.Env → M D) : Prop where
  sc : LamSc L.scope
  free : ∀ y ∈ L.scope.names, y.2 = .free → X.env.scope.names.lookup y.1 = some .cell ∨ X.env.scope.names.lookup y.1 = some .free
  apart : ∀ (i : Nat) (x : Str), X.N[i]? = some x → L.scope.names.lookup x = some .free → i ∉ own
  bd : ∀ pm cl c' ctv, bindArgs (PySem.W.kla_fn "<lambda>" L.qual L.params L.body L.scope cl pm (.ref c') ctv) ⟨[], []⟩ = pure []
  cl : L.cl = cloFrom X.env.cells L.scope.names []
  lam : ∀ (s : Shared) (H : Hp) (E0 : XK) (s1 : Shared) (H1 : Hp) (a c' : Addr) (cl : List (Str × Addr)) (E1 : XK),
    Room kb (lamCx (cxOf (CXe X.prog X.w) X.prog X.w X.K X.mg X.base Nw qw sw f cdw X.A X.stack s H E0) X.N s1 H1 (PySem.W.envX L.qual L.scope s1.heap.objs.size a (.ref c') cl) E1).A → XOk J (lamCx (cxOf (CXe X.prog X.w) X.prog X.w X.K X.mg X.base Nw qw sw f cdw X.A X.stack s H E0) X.N s1 H1 (PySem.W.envX L.qual L.scope s1.heap.objs.size a (.ref c') cl) E1) (fun c H1 => E1 (J.cls c) none H1) →
    PE (lamCx (cxOf (CXe X.prog X.w) X.prog X.w X.K X.mg X.base Nw qw sw f cdw X.A X.stack s H E0) X.N s1 H1 (PySem.W.envX L.qual L.scope s1.heap.objs.size a (.ref c') cl) E1) L.body (tM J X.K (fun c H1 => E1 (J.cls c) none H1) mb)
section
variable {X : Cx} {EX : XK} {E : XE} {tabs : List Addr} {lq : List (Addr × Str)} {cls fns : List Addr} {lam : List LamI} {f : Addr} {Nw : List Str} {qw wn y : Str} {sw bscope : Scope} {cdw : Value} {k k' kb it i : Nat} {mrest : SH.Env → M Fl} {tbl : List (SH.Env → M D)} {p p1 p2 cpos pos : Pos} {own : List Nat}
end
end SX
set_option Elab.async false
set_option linter.all false
set_option maxRecDepth 100000
set_option maxHeartbeats 4000000
namespace SX
open PySem PySem.Spec L2 SH PyProof.Rows
section
variable {J J' : Ip} {K : PySem.W.Frag} {H : Hp} {μ : List Addr}
mutual
theorem rd_more (hj : ∀ H k v, J.ext H k v → J'.ext H k v) : ∀ {d : D} {v : V}, RD J K H μ d v → RD J' K H μ d v
  | _, _, .non => .non
  | _, _, .bl b => .bl b
  | _, _, .int i => .int i
  | _, _, .str s => .str s
  | _, _, .tup h r => .tup h (rds_more hj r)
  | _, _, .con h r => .con h (rds_more hj r)
  | _, _, .loc h => .loc h
  | _, _, .ext h => .ext (hj _ _ _ h)
  | _, _, .ty n => .ty n
theorem rds_more (hj : ∀ H k v, J.ext H k v → J'.ext H k v) : ∀ {ds : List D} {vs : List V}, RDs J K H μ ds vs → RDs J' K H μ ds vs
  | _, _, .nil => .nil
  | _, _, .cons h r => .cons (rd_more hj h) (rds_more hj r)
end
end
def topF (fm : List D → M D) : List D → M D := fun ds S => match S with
  | [] => (match fm ds [] with
    | .ok (.bl true) _ => .ok (.bl true) []
    | _ => .bad)
  | _ => .bad
theorem topF_true {fm : List D → M D} {ds : List D} (h : ∃ S', fm ds [] = .ok (.bl true) S') : ∃ S', topF fm ds [] = .ok (.bl true) S' := by
  obtain ⟨S', e⟩ := h
  exact ⟨[], by unfold topF; rw [e]⟩
section
variable {tabs : List Addr} {lq : List (Addr × Str)} {cls fns : List Addr} {P : Program} {w : World} {K : PySem.W.Frag} {mg : Str → Option Value} {base : Heap}
theorem fn_okL {x qual : Str} {st : Stmt} {f c : Addr} {fd : FuncData} {N ps : List Str} {k : Nat} {ms : SH.Env → M Fl} (lamF : Shared → List LamI) (F : FunC K x qual st f fd c) (Sc : FnScope N ps (defScope st))
    (hb : ∀ (A : Around) (outer : List PySem.Env) (s : Shared) (H : Hp) (E : XK), Room k (A.deeper (PyProof.Rows.envOfC qual (defScope st) s.heap.objs.size f (.ref c))) →
      XOk (J1 tabs lq cls fns (lamF s)) (cxOf (CXe P w) P w K mg base N qual (defScope st) f (.ref c) A outer s H E) (fun c H' => E ((J1 tabs lq cls fns (lamF s)).cls c) none H') →
      WSs (cxOf (CXe P w) P w K mg base N qual (defScope st) f (.ref c) A outer s H E) (defBody st) (tS (J1 tabs lq cls fns (lamF s)) K (fun c H' => E ((J1 tabs lq cls fns (lamF s)).cls c) none H') ms)) :
    FnOk P w K mg base (CXe P w) (k + 1) f fd ps (spX (J1 tabs lq cls fns []) K ps.length (topF (runF N.length ms))) := by
  obtain ⟨oc, od, kV, doc, pm, an, ct, osl, rfl, lk, hcd⟩ := F.ex
  refine fn_of lk hcd Sc (fun vs H Q E h => h.1) fun A outer s H vs Q E hr hsp => ?_
  obtain ⟨hl, μ, S, ds, rp, rds, q⟩ := hsp
  have xok : XOk (J1 tabs lq cls fns (lamF s)) (cxOf (CXe P w) P w K mg base N qual (defScope st) f (.ref c) A outer s H E) (fun c H' => E ((J1 tabs lq cls fns (lamF s)).cls c) none H') :=
    ⟨fun pins σ H1 s1 h' e c args I m hE => made_lv lv_cx I m hE, pass_lv lv_cx fun cls H' ⟨c, e, hE⟩ => by subst e; exact hE, hr.hd⟩
  have hj : ∀ H k v, (J1 tabs lq cls fns []).ext H k v → (J1 tabs lq cls fns (lamF s)).ext H k v := fun H k v z => by
    rcases z with z | z | ⟨L, _, _, _, _, z, _⟩
    · exact .inl z
    · exact .inr (.inl z)
    · simp at z
  unfold topF at q
  cases S with
  | cons o S => exact q.elim
  | nil =>
    have hμ : μ = [] := List.length_eq_zero_iff.mp rp.len
    subst hμ
    have rp1 : Rp (J1 tabs lq cls fns (lamF s)) K H [] [] := ⟨rfl, .nil, fun l a o e => by simp at e, rp.tab⟩
    refine ⟨tS (J1 tabs lq cls fns (lamF s)) K (fun c H' => E ((J1 tabs lq cls fns (lamF s)).cls c) none H') ms, (hb A outer s H E hr xok).h, [], [], startE N.length ds, rp1, start_env (rds_more hj rds), ?_⟩
    have fin : ∀ (S1 : Store), Post (J1 tabs lq cls fns []) K (fun c H' => E ((J1 tabs lq cls fns []).cls c) none H') H [] (.ok (.bl true) []) Q → Post (J1 tabs lq cls fns (lamF s)) K (fun c H' => E ((J1 tabs lq cls fns (lamF s)).cls c) none H') H [] (.ok (.bl true) S1) Q := fun S1 z μ' H' v x' rp' rd => by
      cases rd
      exact z [] H' _ ⟨⟨[], rfl⟩, fun a h => by simp at h, x'.imm, x'.keep⟩ ⟨rfl, .nil, fun l a o e => by simp at e, rp'.tab⟩ (.bl true)
    unfold runF at q
    cases h : ms (startE N.length ds) [] with
    | exc c S1 => rw [h] at q; exact q.elim
    | bad => rw [h] at q; exact q.elim
    | ok fl S1 =>
      rw [h] at q
      cases fl with
      | nx ρ1 => exact q.elim
      | rt d =>
        cases d with
        | bl b =>
          cases b with
          | true => exact fin S1 q
          | false => exact q.elim
        | _ => exact q.elim
      | bk ρ1 => exact q.elim
      | ct ρ1 => exact q.elim
end
section
variable {X : Cx} {EX : XK} {E : XE} {tabs : List Addr} {lq : List (Addr × Str)} {cls fns : List Addr} {lam : List LamI} {f c P : Addr} {Nw : List Str} {qw wn y : Str} {sw scope bscope : Scope} {cdw : Value} {k k' kb it i j : Nat} {mrest : SH.Env → M Fl} {tbl : List (SH.Env → M D)} {p p1 p2 cpos pos lpos : Pos} {params : Arguments} {body : Expr} {iter : Expr} {mi : SH.Env → M Src}
theorem _root_.SH.w_e_lam (hcode : X.env.code = .ref c) (hcd : SG.CodeHd X.base c P) (hP : P ∈ tabs) (hlq : lq.lookup P = some (X.env.qual ++ "<lambda>")) (hbm : SG.Bm X.base X.mg)
    (hfree : ∀ y ∈ scope.names, y.2 = .free → X.env.scope.names.lookup y.1 = some .cell ∨ X.env.scope.names.lookup y.1 = some .free) (hdef : defaultsOf params X.env = ([], []))
    (hL : lam[j]? = some ⟨params, body, scope, X.env.qual ++ "<lambda>", (X.mg "__name__").getD .none, cloFrom X.env.cells scope.names []⟩) :
    WE X (.Lambda params body scope lpos) (tM (J1 tabs lq cls fns lam) X.K E (eC (.ext (cls.length + fns.length + j)))) := ⟨e_lam hcode hcd hP hlq hbm hfree hdef hL⟩
structure LamFs (J : Ip) (X : Cx) (Nw : List Str) (qw : Str) (sw : Scope) (f : Addr) (cdw : Value) (kb : Nat) (own : List Nat) (lam : List LamI) (tbl : List (SH.Env → M D)) : Prop where
  get : ∀ (j : Nat) (L : LamI) (mb : SH.Env → M D), lam[j]? = some L → tbl[j]? = some mb → LamF J X Nw qw sw f cdw kb own L mb
end
end SX
set_option Elab.async false
set_option linter.all false
set_option maxRecDepth 100000
set_option maxHeartbeats 4000000
namespace SX
open PySem PySem.Spec L2 SH PyProof.Rows
def noS : Stmt := .Pass ⟨0, 0, 0, 0⟩
def noE : Expr := .Constant .none 0 ⟨0, 0, 0, 0⟩
def forB : Stmt → List Stmt
  | .For _ _ b _ _ => b
  | _ => []
def asgV : Stmt → Expr
  | .Assign _ v _ => v
  | _ => noE
def exV : Stmt → Expr
  | .Expr v _ => v
  | _ => noE
def lstE : Expr → List Expr
  | .List es _ => es
  | .Call _ es _ _ => es
  | _ => []
def noL : LamI := ⟨default, noE, default, "", .none, []⟩
def lamOf (env : PySem.Env) (mg : Str → Option Value) : Expr → LamI
  | .Lambda p b sc _ => ⟨p, b, sc, env.qual ++ "<lambda>", (mg "__name__").getD .none, cloFrom env.cells sc.names []⟩
  | _ => noL
end SX
set_option Elab.async false
set_option linter.all false
set_option maxRecDepth 100000
set_option maxHeartbeats 4000000
namespace SX
open PySem PySem.Spec L2 SH
open Classical
def ixiD (x : D) (ds : List D) : M D := fun S => match lItems S x, ds with
  | some xs, [.int k] => (match intsO xs with
    | some ns => if k ∈ ns then .ok (.int (ns.idxOf k : Nat)) S else .bad
    | none => .bad)
  | _, _ => .bad
section
variable {J : Ip} {X : Cx} {E : XE}
end
end SX
set_option Elab.async false
set_option linter.all false
set_option maxRecDepth 100000
set_option maxHeartbeats 4000000
namespace L2
open PySem PySem.Spec PyProof.Rows
section
variable {X : Cx} {pos : Pos}
def tPar3 (i j k : Nat) (ta : TA) : TS := fun D σ H => ta σ H fun vs H1 => ∃ v w z, vs = [v, w, z] ∧ D.nx (((σ.set i (some v)).set j (some w)).set k (some z)) H1
theorem ps_par3 {i j k : Nat} {x y z : Str} {a b c : Expr} {ta : TA} {px py pz pt : Pos} {kt k2 pt2} (hc : X.calm = true) (hN : X.N.Nodup) (hi : X.N[i]? = some x) (hj : X.N[j]? = some y) (hk : X.N[k]? = some z) (hij : i ≠ j) (hik : i ≠ k) (hjk : j ≠ k)
    (hx : X.env.scope.names.lookup x = some .local) (hy : X.env.scope.names.lookup y = some .local) (hz : X.env.scope.names.lookup z = some .local) (ha : PA X [a, b, c] ta)
    (hw : swappedStores [.Tuple [.Name x px, .Name y py, .Name z pz] kt pt] (.Tuple [a, b, c] k2 pt2) X.env = pure (some [x, y, z]))
    (hs : swapsWithSole [.Tuple [.Name x px, .Name y py, .Name z pz] kt pt] (.Tuple [a, b, c] k2 pt2) pos.line X.env = pure false := by rfl) :
    PS X (.Assign [.Tuple [.Name x px, .Name y py, .Name z pz] kt pt] (.Tuple [a, b, c] k2 pt2) pos) (tPar3 i j k ta) := by
  intro pins s σ H D I h
  rw [exec_Assign_arm]
  refine wpAny_bind (wpAny_standAt ?_)
  rw [hs]
  refine wpAny_bind (wpAny_pure ?_)
  rw [if_neg (by decide)]
  refine wpAny_bind (Tuple_ (thn (ha _ pins s σ H _ I h) fun us s1 ⟨vs, H1, I1, r1, q1⟩ => ?_))
  obtain ⟨v, w, t, e1, q1⟩ := q1
  subst e1
  obtain ⟨u1, u2, u3, rfl, rv, rw', rt⟩ : ∃ u1 u2 u3, us = [u1, u2, u3] ∧ RelV v u1 ∧ RelV w u2 ∧ RelV t u3 := by
    cases r1 with
    | cons p q =>
      cases q with
      | cons p' q' =>
        cases q' with
        | cons p'' q'' =>
          cases q''
          exact ⟨_, _, _, rfl, p, p', p''⟩
  refine wpAny_newObj_type ?_ (by show 3 ≤ sizeLine; decide)
  have I2 : Inv X pins σ H1 { s1 with heap := s1.heap.push { cls := .type "tuple", data := .seq [u1, u2, u3].toArray } } := I1.kept (t' := s1.toks) fun b o e => Heap.get?_push_of_some _ e
  rw [hw]
  refine wpAny_bind (wpAny_pure ?_)
  show wpAny (model X.prog X.w) X.A (do rule "assign.swapped-stores"; let items ← unpackItems (.ref s1.heap.objs.size) 3 none; assignInOrder [fun v => bindName X.env z v, fun v => bindName X.env y v, fun v => bindName X.env x v] items.reverse; pure Flow.next) _ _ _
  refine wpAny_bind (wpAny_rule (wpAny_bind (unpackItems_tuple (items := #[u1, u2, u3]) (I.ok.hd hc) (IsTup.new s1.heap _) fun h' hx' => ?_)))
  have I3 := I2.kept (h' := h') (t' := s1.toks) fun b o e => hx' b o (Nat.ne_of_lt (Heap.lt_size e)) e
  show wpAny _ _ (assignInOrder [fun v => bindName X.env z v, fun v => bindName X.env y v, fun v => bindName X.env x v] [u3, u2, u1] >>= fun _ => pure Flow.next) _ _ _
  refine wpAny_bind (assignInOrder_cons (wpAny_bindName (store_ok I3 hN hk (.inl hz) rt (fun s2 I4 => ?_) (.inr hz))))
  refine assignInOrder_cons (wpAny_bindName (store_ok I4 hN hj (.inl hy) rw' (fun s3 I5 => ?_) (.inr hy)))
  refine assignInOrder_cons (wpAny_bindName (store_ok I5 hN hi (.inl hx) rv (fun s4 I6 => assignInOrder_nil (wpAny_pure ?_)) (.inr hx)))
  rw [List.set_comm _ _ (Ne.symm hij), List.set_comm _ _ (Ne.symm hik), List.set_comm _ _ (Ne.symm hjk)] at I6
  exact ⟨_, H1, I6, q1⟩
end
end L2
namespace SH
open PySem PySem.Spec L2
def parK3 (i j k : Nat) (ρ : Env) (ds : List D) : M Fl := fun S => match ds with
  | [x, y, z] => .ok (.nx (((ρ.set i (some x)).set j (some y)).set k (some z))) S
  | _ => .bad
def sPar3 (i j k : Nat) (as : Env → M (List D)) : Env → M Fl := fun ρ S => (as ρ S).bind fun ds S1 => parK3 i j k ρ ds S1
section
variable {J : Ip} {E : XE} {X : Cx} {pos : Pos} {as : Env → M (List D)}
theorem w_s_par3 {a b c : Expr} {x y z : Str} {px py pz pt : Pos} {kt k2 pt2} {ii jj kk : Nat} (hc : X.calm = true) (hN : X.N.Nodup) (hi : X.N[ii]? = some x) (hj : X.N[jj]? = some y) (hk : X.N[kk]? = some z) (hij : ii ≠ jj) (hik : ii ≠ kk) (hjk : jj ≠ kk)
    (hx : X.env.scope.names.lookup x = some .local) (hy : X.env.scope.names.lookup y = some .local) (hz : X.env.scope.names.lookup z = some .local) (ha : WA X [a, b, c] (tA J X.K E as))
    (hw : swappedStores [.Tuple [.Name x px, .Name y py, .Name z pz] kt pt] (.Tuple [a, b, c] k2 pt2) X.env = pure (some [x, y, z]))
    (hs : swapsWithSole [.Tuple [.Name x px, .Name y py, .Name z pz] kt pt] (.Tuple [a, b, c] k2 pt2) pos.line X.env = pure false := by rfl) :
    WS X (.Assign [.Tuple [.Name x px, .Name y py, .Name z pz] kt pt] (.Tuple [a, b, c] k2 pt2) pos) (tS J X.K E (sPar3 ii jj kk as)) := ⟨by
  refine PS.imp (ps_par3 hc hN hi hj hk hij hik hjk hx hy hz ha.h hw hs) fun De σ H ⟨μ, S, ρ, rp, re, p⟩ => ?_
  refine ⟨μ, S, ρ, rp, re, ?_⟩
  unfold sPar3 at p
  cases h : as ρ S with
  | exc c S1 => rw [h] at p; exact p
  | bad => rw [h] at p; exact p
  | ok ds S1 =>
    rw [h] at p
    intro μ1 H1 vs x1 rp1 rds
    have p1 : PostS J X.K E H1 μ1 (parK3 ii jj kk ρ ds S1) De := PostS.later x1 p
    unfold parK3 at p1
    split at p1
    · cases rds with
      | cons r1 rds =>
        obtain ⟨v, w, rfl, r2, r3⟩ := rds2 rds
        exact ⟨_, v, w, rfl, p1 μ1 H1 _ .refl rp1 ((((re.mono x1).set r1).set r2).set r3)⟩
    · exact p1.elim⟩
end
end SH
set_option Elab.async false
set_option linter.all false
set_option maxRecDepth 100000
set_option maxHeartbeats 4000000
namespace SX
open PySem PySem.Spec L2 SH PyProof.Rows
def lamOfP (q : Str) (mg : Str → Option Value) : Expr → LamI
  | .Lambda p b sc _ => ⟨p, b, sc, q ++ ".<locals>." ++ "<lambda>", (mg "__name__").getD .none, []⟩
  | _ => noL
def forI : Stmt → Expr
  | .For _ i _ _ _ => i
  | _ => noE
def lamFm (n : Nat) (mb : SH.Env → M D) : List D → M D := fun ds S => mb (startE n ds) S
structure LamP (J : Ip) (P : Program) (w : World) (K : PySem.W.Frag) (mg : Str → Option Value) (base : Heap) (k m : Nat) (L : LamI) (fm : List D → M D) : Prop where
  run : ∀ (A : Around) (outer : List PySem.Env) (s : Shared) (H : Hp) (a c' : Addr) (ctv : Value) (us : List Value) (vs : List V) (Q : VK) (E : XK), Room k A → Env0 P w K mg base A outer s H → s.heap.get? a = some (L.obj c' ctv) → s.heap.CodeRec (.ref c') L.qual →
    Vals vs us → spX J K m fm vs H Q E → codeAny (model P w) A (.call (.ref a) ⟨us, []⟩) (CR (CXe P w) outer P w H s Q E) s
theorem lamP_mk {J : Ip} {P : Program} {w : World} {K : PySem.W.Frag} {mg : Str → Option Value} {base : Heap} {L : LamI} {N : List Str} {k : Nat} {mb : SH.Env → M D} (S : FnScope N N L.scope) (hcl : L.cl = [])
    (hbd : ∀ (pm : Value) (c' : Addr) (ctv : Value) (us : List Value), us.length = N.length → bindArgs (PySem.W.kla_fn "<lambda>" L.qual L.params L.body L.scope [] pm (.ref c') ctv) ⟨us, []⟩ = pure (N.zip us))
    (hb : ∀ (A : Around) (outer : List PySem.Env) (s : Shared) (H : Hp) (E : XK) (a c' : Addr), Room k (A.deeper (envOfC L.qual L.scope s.heap.objs.size a (.ref c'))) →
      XOk J (cxOf (CXe P w) P w K mg base N L.qual L.scope a (.ref c') A outer s H E) (fun c H' => E (J.cls c) none H') →
      WE (cxOf (CXe P w) P w K mg base N L.qual L.scope a (.ref c') A outer s H E) L.body (tM J K (fun c H' => E (J.cls c) none H') mb)) :
    LamP J P w K mg base (k + 1) N.length L (lamFm N.length mb) := by
  obtain ⟨params, body, scope, qual, pm, cl⟩ := L
  obtain rfl : cl = [] := hcl
  refine ⟨fun A outer s H a c' ctv us vs Q E hr e0 ho hcd rv hsp => ?_⟩
  obtain ⟨hl, μ, S0, ds, rp, rds, q⟩ := hsp
  have hlen : us.length = N.length := by rw [← rv.length]; exact hl
  have lim : s.heap.NoLimit := e0.mod.nolimit.keeps fun b o e => (e0.bs b o e).1
  have hkind : ∀ y ∈ N.zip us, scope.names.lookup y.1 = some .local ∨ (scope.names.lookup y.1 = some .cell ∧ ((cellsFrom (s.heap.objs.size + 1) scope.names []).lookup y.1).isSome = true) := fun ⟨n, v⟩ hy => by
    rcases S.par n (List.of_mem_zip hy).1 with q | q
    · exact .inl q
    · exact .inr ⟨q, PySem.W.cellsFrom_some _ _ _ (.inl q)⟩
  refine PySem.W.kla_callFunE hr.depth ho rfl S.co S.gen rfl hcd ?_
  rw [hbd pm c' ctv us hlen]
  refine wpAny_pure ?_
  refine wpAny_newFunctionEnv_cells S.kind hkind fun env he s1 x => ?_
  subst he
  have xok : XOk J (cxOf (CXe P w) P w K mg base N qual scope a (.ref c') A outer s H E) (fun c H' => E (J.cls c) none H') :=
    ⟨fun pins σ H1 s1 h' e c args I m hE => made_lv lv_cx I m hE, pass_lv lv_cx fun cls H' ⟨c, e, hE⟩ => by subst e; exact hE, hr.hd⟩
  have I : Inv (cxOf (CXe P w) P w K mg base N qual scope a (.ref c') A outer s H E) [] (start N vs) H s1 := inv_start S hr.hd e0 hl rv x
  refine ⟨lim.keeps x.toInCall.keep, PySem.W.kla_codeExpr ?_⟩
  refine wpAny_mono ((hb A outer s H E a c' (hr.deeper _) xok).h [] s1 (start N vs) H Q I ⟨μ, S0, startE N.length ds, rp, start_env rds, q⟩) (fun u s' hs => ?_) fun e s' hs => hs
  obtain ⟨v, H', J, rv', q'⟩ := hs
  exact ⟨v, H', J.os, J.bare, J.base, J.hok, rv', q'⟩
structure LamT (J : Ip) (P : Program) (w : World) (K : PySem.W.Frag) (mg : Str → Option Value) (base : Heap) (lam : List LamI) (m k : Nat) (tbl : List (Option (List D → M D))) : Prop where
  get : ∀ (j : Nat) (L : LamI) (fm : List D → M D), lam[j]? = some L → tbl[j]? = some (some fm) → ∃ k1, LamP J P w K mg base k1 m L fm ∧ k1 ≤ k
section
variable {J : Ip} {P : Program} {w : World} {K : PySem.W.Frag} {mg : Str → Option Value} {base : Heap} {lam : List LamI} {m k : Nat} {tbl : List (Option (List D → M D))}
theorem lamt_nil : LamT J P w K mg base [] m k [] := ⟨fun j L fm e => by simp at e⟩
theorem lamt_cons {L : LamI} {k1 : Nat} {fm : List D → M D} (C : LamP J P w K mg base k1 m L fm) (hk : k1 ≤ k) (r : LamT J P w K mg base lam m k tbl) : LamT J P w K mg base (L :: lam) m k (some fm :: tbl) := ⟨fun j L' fm' e1 e2 => by
  cases j with
  | zero => simp at e1 e2; subst e1 e2; exact ⟨k1, C, hk⟩
  | succ j => exact r.get j L' fm' (by simpa using e1) (by simpa using e2)⟩
end
section
variable {X : Cx} {E : XE} {tabs : List Addr} {lq : List (Addr × Str)} {cls fns : List Addr} {lam : List LamI} {m k : Nat} {tF tL : List (Option (List D → M D))} {x : Str} {i : Nat} {p cpos : Pos} {e : Expr} {es : List Expr} {as : SH.Env → M (List D)}
theorem _root_.SH.w_e_calP (hx : XOk (J1 tabs lq cls fns lam) X E) (T : FnT (J1 tabs lq cls fns lam) X.prog X.w X.K X.mg X.base fns m k tF) (hF : tF.length = fns.length) (TL : LamT (J1 tabs lq cls fns lam) X.prog X.w X.K X.mg X.base lam m k tL) (hr : Room k X.A) (hN : X.N[i]? = some x) (hv : Vis X.env.scope x)
    (hn : ∀ ρ S ds S1, as ρ S = .ok ds S1 → ds.length = m) (ha : WA X (e :: es) (tA (J1 tabs lq cls fns lam) X.K E as)) (hd : (x == ("__debug__" : Str)) = false := by decide) (hcd : (x == ("__classdict__" : Str)) = false := by decide)
    (he : starEach (e :: es) X.env = (false, eval e X.env) :: starEach es X.env := by rfl) (hpl : (backTo cpos (starEach es X.env)).any (·.1) = false := by rfl) :
    WE X (.Call (.Name x p) (e :: es) [] cpos) (tM (J1 tabs lq cls fns lam) X.K E (eCV cls.length (tF ++ tL) (eV i) as)) := ⟨by
  intro pins s σ H Q I ⟨μ, S, ρ, rp, re, q⟩
  have q0 := q
  unfold eCV at q
  cases hvr : eV i ρ S with
  | exc c S1 =>
    unfold eV at hvr
    split at hvr <;> cases hvr
  | bad => rw [hvr] at q; exact q.elim
  | ok d S1 =>
    have hρ : ρ[i]? = some (some d) ∧ S1 = S := by
      unfold eV at hvr
      split at hvr
      · rename_i d' e'
        cases hvr
        exact ⟨e', rfl⟩
      · cases hvr
    obtain ⟨hρ, rfl⟩ := hρ
    rw [hvr] at q
    obtain ⟨v, hσ, rd⟩ := re.get i d hρ
    cases rd with
    | @ext kk v hext =>
      have q : Post (J1 tabs lq cls fns lam) X.K E H μ (if cls.length ≤ kk then (match (tF ++ tL)[kk - cls.length]? with | some (some fm) => (as ρ S1).bind fm | _ => .bad) else .bad) Q := q
      by_cases hkk : cls.length ≤ kk
      · rw [if_pos hkk] at q
        by_cases hlt : kk - cls.length < tF.length
        · refine (SH.w_e_calV (cpos := cpos) (p := p) hx T hr hN hv hn ha hd hcd he hpl).h pins s σ H Q I ⟨μ, S1, ρ, rp, re, ?_⟩
          unfold eCV
          rw [hvr]
          show Post (J1 tabs lq cls fns lam) X.K E H μ (if cls.length ≤ kk then (match tF[kk - cls.length]? with | some (some fm) => (as ρ S1).bind fm | _ => .bad) else .bad) Q
          rw [if_pos hkk]
          rw [List.getElem?_append_left hlt] at q
          exact q
        · rw [List.getElem?_append_right (Nat.le_of_not_lt hlt)] at q
          cases ht : tL[kk - cls.length - tF.length]? with
          | none => rw [ht] at q; exact q.elim
          | some o =>
            cases o with
            | none => rw [ht] at q; exact q.elim
            | some fm =>
              rw [ht] at q
              obtain ⟨hl', _⟩ | ⟨f, _, hf, rfl⟩ | ⟨L, a, c', ctv, hge, hL, rfl, ho, co⟩ := hext
              · omega
              · have := (List.getElem?_eq_some_iff.mp hf).1
                omega
              rw [show kk - cls.length - tF.length = kk - (cls.length + fns.length) by rw [hF]; omega] at ht
              obtain ⟨k1, C, hk1⟩ := TL.get _ L fm hL ht
              have ob1 : s.heap.get? a = some (L.obj c' ctv) := (I.hok _ _ ho).1
              refine wpAny_Call_Name_kw (wpAny_mono (pe_var (pos := p) hN hv hd hcd pins s σ H (fun v' H' => v' = .ref a ∧ H' = H) I ⟨_, hσ, rfl, rfl⟩) (fun u s1 hu => ?_) fun _ _ z => z)
              obtain ⟨v1, H1, I1, r1, rfl, rfl⟩ := hu
              obtain rfl : u = .ref a := r1
              have q2 : tA (J1 tabs lq cls fns lam) X.K E as σ H1 fun vs H2 => H2 a = some (.ext (LamO a (L.obj c' ctv))) ∧ H2 c' = some (.ext (CodeO c' L.qual)) ∧ spX (J1 tabs lq cls fns lam) X.K m fm vs H2 Q (lift (J1 tabs lq cls fns lam) E) := by
                refine ⟨μ, S1, ρ, rp, re, ?_⟩
                have q3 := Post.stepA q
                cases h : as ρ S1 with
                | exc c S2 => rw [h] at q3; exact q3
                | bad => rw [h] at q3; exact q3
                | ok ds S2 =>
                  rw [h] at q3
                  intro μ1 H2 vs x1 rp1 rds
                  have p1 := Post.later x1 q
                  rw [h] at p1
                  exact ⟨x1.imm _ _ ho rfl, x1.imm _ _ co rfl, by rw [← rds.length]; exact hn _ _ _ _ h, μ1, S2, ds, rp1, rds, Post.xmono p1 fun c H' z => ⟨c, rfl, z⟩⟩
              have ob0 : s1.heap.get? a = some (L.obj c' ctv) := (I1.hok _ _ ho).1
              refine PySem.W.callWith_F ⟨_, _, _, _, ob0⟩ (thn (ha.h cpos pins s1 σ H1 _ I1 q2) fun us s2 ⟨vs, H2, I2, r, hoa, hoc, q4⟩ => ?_) he hpl
              have ob2 : s2.heap.get? a = some (L.obj c' ctv) := (I2.hok _ _ hoa).1
              refine ⟨⟨_, _, _, _, ob2⟩, ?_⟩
              refine wpAny_call (codeAny_mono (C.run X.A X.stack s2 H2 a c' ctv us vs Q _ (hr.mono hk1) I2.env0 ob2 (codeO_rec (I2.hok _ _ hoc).1) r q4) fun r s' hq => ?_)
              cases r with
              | error e => exact hx.pass pins σ H2 s2 e s' I2 hq
              | ok fl =>
                cases fl with
                | ret u => exact I2.after hq
                | next => exact False.elim hq
                | brk => exact False.elim hq
                | cont => exact False.elim hq
      · rw [if_neg hkk] at q; exact q.elim
    | non => exact q.elim
    | bl b => exact q.elim
    | int i => exact q.elim
    | str s => exact q.elim
    | tup h r => exact q.elim
    | con h r => exact q.elim
    | loc h => exact q.elim
    | ty n => exact q.elim⟩
end
section
variable {J : Ip} {E : XE} {X : Cx} {sts : List Stmt}
theorem _root_.SH.w_ss_never : WSs X sts (tS J X.K E sNever) := ⟨ss_never⟩
end
end SX
set_option Elab.async false
set_option linter.all false
set_option maxRecDepth 100000
set_option maxHeartbeats 4000000
namespace SX
open PySem PySem.Spec L2 SH PyProof.Rows
theorem fnc_of {scope sc : Scope} (h : decide (∀ y ∈ scope.names, y.2 = .free → (sc.names.lookup y.1 == some .cell) = true) = true) : ∀ y ∈ scope.names, y.2 = .free → (sc.names.lookup y.1 == some .cell) = true := of_decide_eq_true h
theorem lam_atB {X : Cx} {pins : List (Addr × Obj)} {σ : L2.St} {H : Hp} {s : Shared} {params : Arguments} {body : Expr} {scope : Scope} {qual : Str} {pm ctv : Value} {a c' : Addr} (I : Inv X pins σ H s) (hst : X.stack = X.outer) (hfn : ∀ y ∈ scope.names, y.2 = .free → X.fn y.1 = true)
    (hfree : ∀ y ∈ scope.names, y.2 = .free → X.env.scope.names.lookup y.1 = some .cell ∨ X.env.scope.names.lookup y.1 = some .free)
    (ob : s.heap.get? a = some (PySem.W.kla_obj "<lambda>" qual params body scope (cloFrom X.env.cells scope.names []) pm c' ctv)) (an : H a = none) (af : a ∉ frs X.stack) (co : H c' = some (.ext (CodeO c' qual))) :
    LamAt X.N params body scope qual pm (cloFrom X.env.cells scope.names []) a c' ctv σ H s.heap (frs X.stack) := by
  have hf : ∀ y ∈ scope.names, y.2 = .free → ∃ c, X.env.cells.lookup y.1 = some c := fun y hy e => by
    rcases hfree y hy e with z | z
    · exact I.ok.has _ (.inl z)
    · exact I.ok.has _ (.inr z)
  have cm : ∀ {y c}, (cloFrom X.env.cells scope.names []).lookup y = some c → (y, NameKind.free) ∈ scope.names ∧ X.env.cells.lookup y = some c := fun {y c} e => by
    rcases cloFrom_mem (PySem.mem_of_lookup e) with hm | ⟨h1, rfl⟩
    · cases hm
    · obtain ⟨c, hc⟩ := hf _ h1 rfl
      refine ⟨h1, ?_⟩
      rw [hc]
      rfl
  have look : ∀ {y}, scope.names.lookup y = some .free → ∃ c, (cloFrom X.env.cells scope.names []).lookup y = some c ∧ X.env.cells.lookup y = some c := fun {y} hl => by
    obtain ⟨c, e⟩ := mem_lookup (cloFrom_has (cells := X.env.cells) (acc := []) (PySem.mem_of_lookup hl))
    exact ⟨c, e, (cm e).2⟩
  refine ⟨.inl ⟨ob, an, af⟩, co, ⟨fun y c e => ⟨I.freeC y c (cm e).2, I.cell y c (cm e).2⟩, fun y z c e1 e2 => I.ok.inj y z c (cm e1).2 (cm e2).2, fun y e => let ⟨c, e1, _⟩ := look e; ⟨c, e1⟩, fun i x v e1 e2 e3 => ?_, I.len⟩, fun y c e hm => ?_⟩
  · obtain ⟨m, hn, hl⟩ := I.loc
    have hk := hfree _ (PySem.mem_of_lookup e3) rfl
    obtain ⟨u, r, l⟩ := hl i x v e1 e2 (.inr hk)
    rcases l with ⟨z, _⟩ | ⟨_, c, z1, z2⟩
    · have z : X.env.scope.names.lookup x = some .local := z
      rcases hk with y | y <;> (rw [z] at y; cases y)
    · obtain ⟨c2, g1, g2⟩ := look e3
      rw [z1] at g2
      cases g2
      exact ⟨u, c, r, g1, z2⟩
  · obtain ⟨h1, hc⟩ := cm e
    rw [hst] at hm
    obtain ⟨_, o, ho, _⟩ := I.ok.funs.mem hm
    exact absurd (Nat.lt_of_lt_of_le (Heap.lt_size ho) (I.ok.cab y c (hfn _ h1 rfl) hc)) (Nat.lt_irrefl _)
section
variable {X : Cx} {tabs : List Addr} {lq : List (Addr × Str)} {cls fns : List Addr} {lam : List LamI} {f c P : Addr} {Nw : List Str} {qw wn : Str} {sw scope : Scope} {cdw : Value} {k k' kb it : Nat} {mrest : SH.Env → M Fl} {mb : SH.Env → M D} {params : Arguments} {body : Expr} {p lpos cpos : Pos}
theorem e_refL (hst : X.stack = X.outer) (hfn : ∀ y ∈ scope.names, y.2 = .free → X.fn y.1 = true) (hw : WordRun (J1 tabs lq cls fns lam) cls.length X.prog X.w X.K X.mg X.base f Nw qw sw cdw k it mrest) (hr : Room k' X.A) (hle : k + 1 ≤ k') (hg : Gl X wn) (hm : X.mg wn = some (.ref f)) (hk : PySem.W.keepIn X.K (.ref f) = true)
    (hcode : X.env.code = .ref c) (hcd : SG.CodeHd X.base c P) (hP : P ∈ tabs) (hlq : lq.lookup P = some (X.env.qual ++ "<lambda>")) (hbm : SG.Bm X.base X.mg) (S : LamSc scope)
    (hfree : ∀ y ∈ scope.names, y.2 = .free → X.env.scope.names.lookup y.1 = some .cell ∨ X.env.scope.names.lookup y.1 = some .free) (hdef : defaultsOf params X.env = ([], []))
    (hbd : ∀ pm cl c' ctv, bindArgs (PySem.W.kla_fn "<lambda>" (X.env.qual ++ "<lambda>") params body scope cl pm (.ref c') ctv) ⟨[], []⟩ = pure [])
    (hlam : ∀ (s : Shared) (H : Hp) (E0 : XK) (s1 : Shared) (H1 : Hp) (a c' : Addr) (cl : List (Str × Addr)) (E1 : XK),
      Room kb (lamCx (cxOf (CXe X.prog X.w) X.prog X.w X.K X.mg X.base Nw qw sw f cdw X.A X.stack s H E0) X.N s1 H1 (PySem.W.envX (X.env.qual ++ "<lambda>") scope s1.heap.objs.size a (.ref c') cl) E1).A →
      XOk (J1 tabs lq cls fns lam) (lamCx (cxOf (CXe X.prog X.w) X.prog X.w X.K X.mg X.base Nw qw sw f cdw X.A X.stack s H E0) X.N s1 H1 (PySem.W.envX (X.env.qual ++ "<lambda>") scope s1.heap.objs.size a (.ref c') cl) E1) (fun c H1 => E1 ((J1 tabs lq cls fns lam).cls c) none H1) →
      WE (lamCx (cxOf (CXe X.prog X.w) X.prog X.w X.K X.mg X.base Nw qw sw f cdw X.A X.stack s H E0) X.N s1 H1 (PySem.W.envX (X.env.qual ++ "<lambda>") scope s1.heap.objs.size a (.ref c') cl) E1) body (tM (J1 tabs lq cls fns lam) X.K (fun c H1 => E1 ((J1 tabs lq cls fns lam).cls c) none H1) mb))
    (hkb : kb + 1 ≤ k) (hdb : (wn == ("__debug__" : Str)) = false := by decide) (he : starEach [.Lambda params body scope lpos] X.env = (false, eval (.Lambda params body scope lpos) X.env) :: starEach [] X.env := by rfl) (hpl : (backTo cpos (starEach [] X.env)).any (·.1) = false := by rfl) :
    PE X (.Call (.Name wn p) [.Lambda params body scope lpos] [] cpos) (tM (J1 tabs lq cls fns lam) X.K noX (eRef cls.length (wordF Nw.length it mrest) mb)) := by
  intro pins s σ H Q I ⟨μ, S0, ρ, rp, re, p⟩
  refine wpAny_Call_Name_kw (ld_glob I hg hm ?_ hdb)
  refine PySem.W.callWith_K (h₀ := X.base) I.ok.mod.kin hk ?_ he hpl
  obtain ⟨ps, hPs, ht, tk⟩ := rp.tab P hP
  rw [he]
  show wpAny _ _ (spliced ((false, eval (.Lambda params body scope lpos) X.env) :: backTo cpos (starEach [] X.env))) _ _ s
  have hf : ∀ y ∈ scope.names, y.2 = .free → ∃ c, X.env.cells.lookup y.1 = some c := fun y hy e => by
    rcases hfree y hy e with z | z
    · exact I.ok.has _ (.inl z)
    · exact I.ok.has _ (.inr z)
  refine Calls.spliced_cons (lam_make I hcode hcd hbm hPs ht (tk _ hlq) hf hdef fun a c' ctv H' s' hsz I' ob an co cs => ?_)
  refine Calls.spliced_nil ⟨I'.kIn, ?_⟩
  have rx : Rp (J1 tabs lq cls fns lam) X.K H' μ S0 ∧ Ext H μ H' μ := by
    rcases cs with rfl | ⟨hcn, rfl, ht'⟩
    · exact ⟨rp, .refl⟩
    · have hcP : P ≠ c' := fun z => by rw [← z, hPs] at hcn; cases hcn
      rw [upd_comm hcP]
      have e1 : (upd H c' (.ext (CodeO c' (X.env.qual ++ "<lambda>")))) P = some (.tbl ps) := by rw [upd_ne hcP]; exact hPs
      have rp1 := rp.laid (o := .ext (CodeO c' (X.env.qual ++ "<lambda>"))) hcn
      refine ⟨rp1.table e1 ht' fun qual hq cv hcv => ?_, (Ext.laid hcn).trans (Ext.table rp1 e1)⟩
      have e2 : (ps ++ #[rawInt lpos.line, rawInt lpos.col, Value.ref c']).toList = ps.toList ++ [rawInt lpos.line, rawInt lpos.col, .ref c'] := by simp
      rw [e2, show rawInt lpos.line = Value.int lpos.line 0 from rfl, show rawInt lpos.col = Value.int lpos.col 0 from rfl, codes_snoc _ ht] at hcv
      rcases List.mem_append.mp hcv with z | z
      · obtain ⟨c2, rfl, h2⟩ := tk qual hq cv z
        exact ⟨c2, rfl, (Ext.table (μ := μ) rp1 e1).imm _ _ ((Ext.laid (μ := μ) hcn).imm _ _ h2 rfl) rfl⟩
      · rw [List.mem_singleton.mp z]
        rw [hlq] at hq
        cases hq
        exact ⟨c', rfl, by rw [upd_ne (Ne.symm hcP)]; exact upd_same⟩
  obtain ⟨rp', x'⟩ := rx
  have af : a ∉ frs X.stack := fun z => by
    obtain ⟨_, o, ho, _⟩ := I.stack.mem z
    exact absurd (Nat.lt_of_lt_of_le (Heap.lt_size ho) hsz) (Nat.lt_irrefl _)
  have L := lam_atB I' hst hfn hfree ob an af co
  have hrk := hr.mono hle
  refine wpAny_call (codeAny_mono (hw.run (E := fun _ _ _ => False) hrk I'.env0 L S hbd (fun s1 E1 => ?_) ⟨μ, S0, ρ, rp', re.mono x', Post.xmono (Post.later x' p) fun _ _ z => z⟩) fun r s2 hq => ?_)
  · have hra := ((hrk.deeper (envOfC qw sw s'.heap.objs.size f cdw)).mono hkb).deeper (PySem.W.envX (X.env.qual ++ "<lambda>") scope s1.heap.objs.size a (.ref c') (cloFrom X.env.cells scope.names []))
    exact (hlam s' H' _ s1 H' a c' _ E1 hra ⟨fun pins σ H1 s1 h' e c args I m hE => made_lv (lv_lam rfl) I m hE, pass_lv (lv_lam rfl) fun cls H' ⟨c, e, hE⟩ => by subst e; exact hE, hra.hd⟩).h
  · cases r with
    | error e => exact (cxe_no hq).elim
    | ok fl =>
      cases fl with
      | ret u => exact I'.after hq
      | next => exact False.elim hq
      | brk => exact False.elim hq
      | cont => exact False.elim hq
theorem _root_.SH.w_e_refL {n nc : Nat} (hn : Nw.length = n) (hnc : cls.length = nc) (hst : X.stack = X.outer) (hfn : ∀ y ∈ scope.names, y.2 = .free → X.fn y.1 = true) (hw : WordRun (J1 tabs lq cls fns lam) cls.length X.prog X.w X.K X.mg X.base f Nw qw sw cdw k it mrest) (hr : Room k' X.A) (hle : k + 1 ≤ k') (hg : Gl X wn) (hm : X.mg wn = some (.ref f)) (hk : PySem.W.keepIn X.K (.ref f) = true)
    (hcode : X.env.code = .ref c) (hcd : SG.CodeHd X.base c P) (hP : P ∈ tabs) (hlq : lq.lookup P = some (X.env.qual ++ "<lambda>")) (hbm : SG.Bm X.base X.mg) (S : LamSc scope)
    (hfree : ∀ y ∈ scope.names, y.2 = .free → X.env.scope.names.lookup y.1 = some .cell ∨ X.env.scope.names.lookup y.1 = some .free) (hdef : defaultsOf params X.env = ([], []))
    (hbd : ∀ pm cl c' ctv, bindArgs (PySem.W.kla_fn "<lambda>" (X.env.qual ++ "<lambda>") params body scope cl pm (.ref c') ctv) ⟨[], []⟩ = pure [])
    (hlam : ∀ (s : Shared) (H : Hp) (E0 : XK) (s1 : Shared) (H1 : Hp) (a c' : Addr) (cl : List (Str × Addr)) (E1 : XK),
      Room kb (lamCx (cxOf (CXe X.prog X.w) X.prog X.w X.K X.mg X.base Nw qw sw f cdw X.A X.stack s H E0) X.N s1 H1 (PySem.W.envX (X.env.qual ++ "<lambda>") scope s1.heap.objs.size a (.ref c') cl) E1).A →
      XOk (J1 tabs lq cls fns lam) (lamCx (cxOf (CXe X.prog X.w) X.prog X.w X.K X.mg X.base Nw qw sw f cdw X.A X.stack s H E0) X.N s1 H1 (PySem.W.envX (X.env.qual ++ "<lambda>") scope s1.heap.objs.size a (.ref c') cl) E1) (fun c H1 => E1 ((J1 tabs lq cls fns lam).cls c) none H1) →
      WE (lamCx (cxOf (CXe X.prog X.w) X.prog X.w X.K X.mg X.base Nw qw sw f cdw X.A X.stack s H E0) X.N s1 H1 (PySem.W.envX (X.env.qual ++ "<lambda>") scope s1.heap.objs.size a (.ref c') cl) E1) body (tM (J1 tabs lq cls fns lam) X.K (fun c H1 => E1 ((J1 tabs lq cls fns lam).cls c) none H1) mb))
    (hkb : kb + 1 ≤ k) (hdb : (wn == ("__debug__" : Str)) = false := by decide) (he : starEach [.Lambda params body scope lpos] X.env = (false, eval (.Lambda params body scope lpos) X.env) :: starEach [] X.env := by rfl) (hpl : (backTo cpos (starEach [] X.env)).any (·.1) = false := by rfl) :
    WE X (.Call (.Name wn p) [.Lambda params body scope lpos] [] cpos) (tM (J1 tabs lq cls fns lam) X.K noX (eRef nc (wordF n it mrest) mb)) := by
  subst hn hnc
  exact ⟨e_refL hst hfn hw hr hle hg hm hk hcode hcd hP hlq hbm S hfree hdef hbd hlam hkb hdb he hpl⟩
end
end SX
set_option Elab.async false
set_option linter.all false
set_option maxRecDepth 100000
set_option maxHeartbeats 8000000
namespace SK
open PySem PySem.Spec L2 SH
def cd_MOST_HUES : D := .int 3
def cd_MOST_NUMBERS : D := .int 30
def cd_RULES : D := .tup [.str "any", .str "unlike"]
abbrev N_x_is_whole : List Str := ["thing"]
theorem nd_x_is_whole : N_x_is_whole.Nodup := by decide +kernel
noncomputable def m_x_is_whole : SH.Env → M Fl := (sRet (eAnd (eA isiD (aC (eV 0) (aC (eC (.ty "int")) aN))) (eNot (eA isiD (aC (eV 0) (aC (eC (.ty "bool")) aN))))))
noncomputable def fm_x_is_whole : List D → M D := runF N_x_is_whole.length m_x_is_whole
abbrev N_x_check_rule : List Str := ["rule"]
theorem nd_x_check_rule : N_x_check_rule.Nodup := by decide +kernel
noncomputable def m_x_check_rule : SH.Env → M Fl := (sIf (bV (e2 (inD true) (eV 0) (eC cd_RULES))) (SX.sRaise 2 (aC (eC (.str "a rule is one of the texts any and unlike")) aN)) sNil)
noncomputable def fm_x_check_rule : List D → M D := runF N_x_check_rule.length m_x_check_rule
abbrev N_x_width_of : List Str := ["row"]
theorem nd_x_width_of : N_x_width_of.Nodup := by decide +kernel
noncomputable def m_x_width_of : SH.Env → M Fl := (sRet (e2 addD (e2 mulD (eC (.int 2)) (eA lenD (aC (eV 0) aN))) (eC (.int 1))))
noncomputable def fm_x_width_of : List D → M D := runF N_x_width_of.length m_x_width_of
abbrev N_x_law_cell_at : List Str := ["_law_script", "_law_k"]
theorem nd_x_law_cell_at : N_x_law_cell_at.Nodup := by decide +kernel
noncomputable def m_x_law_cell_at : SH.Env → M Fl := (sSeq (sIf (bV (e2 ltI (eV 1) (eA lenD (aC (eV 0) aN)))) (sRet (e2 ixD (eV 0) (eV 1))) sNil) (sRet (eC (.int 0))))
noncomputable def fm_x_law_cell_at : List D → M D := runF N_x_law_cell_at.length m_x_law_cell_at
abbrev N_x_law_take : List Str := ["_law_state_here", "_law_many", "_law_mixed", "_law_found"]
theorem nd_x_law_take : N_x_law_take.Nodup := by decide +kernel
noncomputable def m_x_law_take : SH.Env → M Fl := (sSeq (sIf (bV (e2 geD (e2 ixD (eV 0) (eC (.int 0))) (eV 1))) (sSeq (sAsg (e2 modD (e2 ixD (eV 0) (eC (.int 0))) (eV 1)) (tgN 3)) (sSeq (sSub (e2 divD (e2 ixD (eV 0) (eC (.int 0))) (eV 1)) (eV 0) (eC (.int 0))) (sRet (eV 3)))) sNil) (sSeq (sSub (e2 modD (e2 addD (e2 mulD (e2 ixD (eV 0) (eC (.int 1))) (eC (.int 48271))) (eC (.int 29))) (eC (.int 2147483647))) (eV 0) (eC (.int 1))) (sSeq (sAsg (e2 modD (e2 addD (e2 addD (e2 mulD (e2 ixD (eV 0) (eC (.int 1))) (e2 ixD (eV 0) (eC (.int 1)))) (e2 mulD (eC (.int 39373)) (e2 ixD (eV 0) (eC (.int 1))))) (eC (.int 7))) (eC (.int 2147483629))) (tgN 2)) (sSeq (sAsg (e2 modD (e2 addD (e2 mulD (eV 2) (eV 2)) (e2 mulD (eC (.int 16807)) (eV 2))) (eC (.int 2147483587))) (tgN 2)) (sRet (e2 modD (e2 divD (eV 2) (eC (.int 8))) (eV 1)))))))
noncomputable def fm_x_law_take : List D → M D := runF N_x_law_take.length m_x_law_take
abbrev N_x_law_fits : List Str := ["_law_row_here", "_law_hue", "_law_rule", "_law_c", "_law_a"]
theorem nd_x_law_fits : N_x_law_fits.Nodup := by decide +kernel
noncomputable def m_x_law_fits : SH.Env → M Fl := (sSeq (sAsg (e2 addD (eA lenD (aC (eV 0) aN)) (eC (.int 1))) (tgN 3)) (sSeq (sFor (iR2 (aC (eC (.int 1)) (aC (eV 3) aN))) (tgN 4) (sIf (bAnd (bOr (bV (e2 ltI (eV 4) (e2 subD (eV 3) (eV 4)))) (bAnd (bV (e2 (eqD false) (eV 2) (eC (.str "any")))) (bV (e2 (eqD false) (e2 mulD (eC (.int 2)) (eV 4)) (eV 3))))) (bAnd (bV (e2 (eqD false) (e2 ixD (eV 0) (e2 subD (eV 4) (eC (.int 1)))) (eV 1))) (bV (e2 (eqD false) (e2 ixD (eV 0) (e2 subD (e2 subD (eV 3) (eV 4)) (eC (.int 1)))) (eV 1))))) (sRet (eC (.bl false))) sNil)) (sRet (eC (.bl true)))))
noncomputable def fm_x_law_fits : List D → M D := runF N_x_law_fits.length m_x_law_fits
abbrev N_x_law_word : List Str := ["_law_call", "_law_error", "_law_kinds", "_law_words", "e"]
theorem nd_x_law_word : N_x_law_word.Nodup := by decide +kernel
noncomputable def m_x_law_word : SH.Env → M Fl := (sSeq (sAsg (eA mLst (aC (SX.eIs 13 (fun c => c == 0) (eV 1)) (aC (SX.eIs 13 (fun c => c == 1) (eV 1)) (aC (SX.eIs 13 (fun c => c == 2) (eV 1)) aN)))) (tgN 2)) (sSeq (sAsg (e2 addD (eV 2) (eA mLst (aC (SX.eIs 13 (fun c => c == 3) (eV 1)) (aC (SX.eIs 13 (fun c => c == 4) (eV 1)) (aC (SX.eIs 13 (fun c => c == 8) (eV 1)) aN))))) (tgN 2)) (sSeq (sAsg (e2 addD (eV 2) (eA mLst (aC (SX.eIs 13 (fun c => c == 9) (eV 1)) (aC (SX.eIs 13 (fun c => c == 5) (eV 1)) (aC (SX.eIs 13 (fun c => c == 6) (eV 1)) aN))))) (tgN 2)) (sSeq (sAsg (e2 addD (eV 2) (eA mLst (aC (SX.eIs 13 (fun c => c == 7) (eV 1)) (aC (SX.eIs 13 (fun c => c == 10) (eV 1)) (aC (SX.eIs 13 (fun c => c == 11) (eV 1)) aN))))) (tgN 2)) (sSeq (sEx (eM appD (eV 2) (aC (SX.eIs 13 (fun c => c == 12) (eV 1)) aN))) (sSeq (sIf (bV (e2 (SX.isNX false) (eV 1) (eC .non))) (sRet (eC (.str "told"))) sNil) (sSeq (sIf (bOr (bV (e2 (eqD true) (eM SX.cntD (eV 2) (aC (eC (.bl true)) aN)) (eC (.int 1)))) (bNot (SX.bT (SX.eIs 13 (fun _ => true) (eV 1))))) (sRet (eC (.str "other"))) sNil) (sSeq (sAsg (eA mLst (aC (eC (.str "hues")) (aC (eC (.str "row")) (aC (eC (.str "rule")) (aC (eC (.str "number")) (aC (eC (.str "hue")) (aC (eC (.str "clean")) (aC (eC (.str "many")) (aC (eC (.str "lot")) (aC (eC (.str "step")) (aC (eC (.str "paper")) (aC (eC (.str "text")) (aC (eC (.str "line")) (aC (eC (.str "deed")) aN)))))))))))))) (tgN 3)) (sRet (e2 ixD (eV 3) (eM SX.ixbD (eV 2) (aC (eC (.bl true)) aN))))))))))))
abbrev N_x_is_within : List Str := ["thing", "low", "high"]
theorem nd_x_is_within : N_x_is_within.Nodup := by decide +kernel
noncomputable def m_x_is_within : SH.Env → M Fl := (sRet (eAnd (eA fm_x_is_whole (aC (eV 0) aN)) (eCh leD leD (eV 1) (eV 0) (eV 2))))
noncomputable def fm_x_is_within : List D → M D := runF N_x_is_within.length m_x_is_within
abbrev N_x_law_state : List Str := ["_law_script", "_law_k", "_law_cell"]
theorem nd_x_law_state : N_x_law_state.Nodup := by decide +kernel
noncomputable def m_x_law_state : SH.Env → M Fl := (sSeq (sAsg (eA fm_x_law_cell_at (aC (eV 0) (aC (eV 1) aN))) (tgN 2)) (sRet (eA mLst (aC (eA maxD (aC (eC (.int 0)) (aC (e2 subD (eV 2) (e2 powD (eC (.int 10)) (eC (.int 18)))) aN))) (aC (e2 modD (eV 2) (eC (.int 2147483647))) aN)))))
noncomputable def fm_x_law_state : List D → M D := runF N_x_law_state.length m_x_law_state
abbrev N_x_law_row : List Str := ["_law_state_here", "_law_hues", "_law_many", "_law_found", "_law_k", "_law_way", "_law_rule", "_law_hue", "_law_good", "_law_j", "_law_one"]
theorem nd_x_law_row : N_x_law_row.Nodup := by decide +kernel
noncomputable def m_x_law_row : SH.Env → M Fl := (sSeq (sAsg (eA mTup (aC (eA fm_x_law_take (aC (eV 0) (aC (eC (.int 4)) aN))) (aC (e2 ixD (eA mLst (aC (eC (.str "any")) (aC (eC (.str "unlike")) aN))) (eA fm_x_law_take (aC (eV 0) (aC (eC (.int 2)) aN)))) aN))) (tgT [(tgN 5), (tgN 6)])) (sSeq (sAsg (eA mTup aN) (tgN 3)) (sSeq (sFor (iR1 (aC (eV 2) aN)) (tgN 4) (sSeq (sAsg (eA fm_x_law_take (aC (eV 0) (aC (eV 1) aN))) (tgN 7)) (sSeq (sAsg (eLc (iR1 (aC (eV 1) aN)) (tgN 9) bYes (e2 modD (e2 addD (eV 7) (eV 9)) (eV 1)) [9]) (tgN 8)) (sSeq (sIf (bV (e2 gtD (eV 5) (eC (.int 1)))) (sAsg (e2 addD (eLc (iV (eV 8)) (tgN 10) (SX.bT (eA fm_x_law_fits (aC (eV 3) (aC (eV 10) (aC (eV 6) aN))))) (eV 10) [10]) (eA mLst (aC (eV 7) aN))) (tgN 8)) sNil) (sAsg (e2 addD (eV 3) (eA mTup (aC (e2 ixD (eV 8) (eC (.int 0))) aN))) (tgN 3)))))) (sRet (eV 3)))))
noncomputable def fm_x_law_row : List D → M D := runF N_x_law_row.length m_x_law_row
abbrev N_x_law_no_hues : List Str := ["_law_state_here"]
theorem nd_x_law_no_hues : N_x_law_no_hues.Nodup := by decide +kernel
noncomputable def m_x_law_no_hues : SH.Env → M Fl := (sRet (e2 ixD (eA mLst (aC (eC (.int 0)) (aC (eC (.int 4)) (aC (eC (.int (-1))) (aC (eC (.bl true)) (aC (eC .non) (aC (eC (.str "2")) (aC (eA mTup (aC (eC (.int 1)) aN)) (aC (e2 powD (eC (.int 10)) (eC (.int 39))) (aC (eA mLst (aC (eC (.int 2)) aN)) aN)))))))))) (eA fm_x_law_take (aC (eV 0) (aC (eC (.int 9)) aN)))))
noncomputable def fm_x_law_no_hues : List D → M D := runF N_x_law_no_hues.length m_x_law_no_hues
abbrev N_x_law_no_rule : List Str := ["_law_state_here"]
theorem nd_x_law_no_rule : N_x_law_no_rule.Nodup := by decide +kernel
noncomputable def m_x_law_no_rule : SH.Env → M Fl := (sRet (e2 ixD (eA mLst (aC (eC .non) (aC (eC (.str "Any")) (aC (eC (.str "any ")) (aC (eC (.str "")) (aC (eC (.int 0)) (aC (eC (.bl true)) (aC (eA mLst (aC (eC (.str "any")) aN)) (aC (eA mTup (aC (eC (.str "unlike")) aN)) (aC (eC (.str "unlikely")) (aC (eC (.str "like")) aN))))))))))) (eA fm_x_law_take (aC (eV 0) (aC (eC (.int 10)) aN)))))
noncomputable def fm_x_law_no_rule : List D → M D := runF N_x_law_no_rule.length m_x_law_no_rule
abbrev N_x_is_hue : List Str := ["hues", "thing"]
theorem nd_x_is_hue : N_x_is_hue.Nodup := by decide +kernel
noncomputable def m_x_is_hue : SH.Env → M Fl := (sRet (eA fm_x_is_within (aC (eV 1) (aC (eC (.int 0)) (aC (e2 subD (eV 0) (eC (.int 1))) aN)))))
noncomputable def fm_x_is_hue : List D → M D := runF N_x_is_hue.length m_x_is_hue
abbrev N_x_check_hues : List Str := ["hues"]
theorem nd_x_check_hues : N_x_check_hues.Nodup := by decide +kernel
noncomputable def m_x_check_hues : SH.Env → M Fl := (sIf (bNot (SX.bT (eA fm_x_is_within (aC (eV 0) (aC (eC (.int 1)) (aC (eC cd_MOST_HUES) aN)))))) (SX.sRaise 0 (aC (eC (.str "a number of hues is a whole number from 1 to 3")) aN)) sNil)
noncomputable def fm_x_check_hues : List D → M D := runF N_x_check_hues.length m_x_check_hues
abbrev N_x_law_no_row : List Str := ["_law_state_here", "_law_hues", "_law_row_here", "_law_odd", "_law_at", "_law_some"]
theorem nd_x_law_no_row : N_x_law_no_row.Nodup := by decide +kernel
noncomputable def m_x_law_no_row : SH.Env → M Fl := (sSeq (sAsg (eA fm_x_law_row (aC (eV 0) (aC (eV 1) (aC (eA fm_x_law_take (aC (eV 0) (aC (eC (.int 31)) aN))) aN)))) (tgN 2)) (sSeq (sAsg (e2 ixD (eA mLst (aC (eC .non) (aC (eV 1) (aC (eC (.int (-1))) (aC (eC (.bl true)) (aC (eC (.str "0")) (aC (eA mTup (aC (eC (.int 0)) aN)) (aC (e2 powD (eC (.int 10)) (eC (.int 39))) (aC (eA mLst (aC (eC (.int 0)) aN)) aN))))))))) (eA fm_x_law_take (aC (eV 0) (aC (eC (.int 8)) aN)))) (tgN 3)) (sSeq (sAsg (eA fm_x_law_take (aC (eV 0) (aC (e2 addD (eA lenD (aC (eV 2) aN)) (eC (.int 1))) aN))) (tgN 4)) (sSeq (sAsg (eA mLst (aC (e2 addD (e2 addD (eSl (eV 2) pN (pS (eV 4))) (eA mTup (aC (eV 3) aN))) (eSl (eV 2) (pS (e2 addD (eV 4) (eC (.int 1)))) pN)) (aC (eA lstD (aC (eV 2) aN)) (aC (eC .non) (aC (e2 mulD (eA mTup (aC (eC (.int 0)) aN)) (eC (.int 31))) (aC (eC (.str "abc")) (aC eDNew (aC (eC (.int 7)) aN)))))))) (tgN 5)) (sRet (e2 ixD (eV 5) (e2 ixD (eA mLst (aC (eC (.int 0)) (aC (eC (.int 0)) (aC (eC (.int 0)) (aC (e2 addD (eC (.int 1)) (eA fm_x_law_take (aC (eV 0) (aC (eC (.int 6)) aN)))) aN))))) (eA fm_x_law_take (aC (eV 0) (aC (eC (.int 4)) aN))))))))))
noncomputable def fm_x_law_no_row : List D → M D := runF N_x_law_no_row.length m_x_law_no_row
abbrev N_x_is_half_row : List Str := ["hues", "thing", "part"]
theorem nd_x_is_half_row : N_x_is_half_row.Nodup := by decide +kernel
noncomputable def m_x_is_half_row : SH.Env → M Fl := (sSeq (sIf (bOr (bNot (SX.bT (eA isiD (aC (eV 1) (aC (eC (.ty "tuple")) aN))))) (bV (e2 gtD (eA lenD (aC (eV 1) aN)) (eC cd_MOST_NUMBERS)))) (sRet (eC (.bl false))) sNil) (sRet (eAllG true (iV (eV 1)) (tgN 2) bYes (eOr (e2 (isD false) (eV 2) (eC .non)) (eA fm_x_is_hue (aC (eV 0) (aC (eV 2) aN)))) [2])))
noncomputable def fm_x_is_half_row : List D → M D := runF N_x_is_half_row.length m_x_is_half_row
abbrev N_x_is_full_row : List Str := ["hues", "thing"]
theorem nd_x_is_full_row : N_x_is_full_row.Nodup := by decide +kernel
noncomputable def m_x_is_full_row : SH.Env → M Fl := (sRet (eAnd (eA fm_x_is_half_row (aC (eV 0) (aC (eV 1) aN))) (e2 (inD true) (eC .non) (eV 1))))
noncomputable def fm_x_is_full_row : List D → M D := runF N_x_is_full_row.length m_x_is_full_row
abbrev N_x_check_row : List Str := ["hues", "row"]
theorem nd_x_check_row : N_x_check_row.Nodup := by decide +kernel
noncomputable def m_x_check_row : SH.Env → M Fl := (sIf (bNot (SX.bT (eA fm_x_is_full_row (aC (eV 0) (aC (eV 1) aN))))) (SX.sRaise 1 (aC (eC (.str "a row is a tuple of at most 30 hues")) aN)) sNil)
noncomputable def fm_x_check_row : List D → M D := runF N_x_check_row.length m_x_check_row
abbrev N_x_check_ruled_row : List Str := ["hues", "row", "rule"]
theorem nd_x_check_ruled_row : N_x_check_ruled_row.Nodup := by decide +kernel
noncomputable def m_x_check_ruled_row : SH.Env → M Fl := (sSeq (sEx (eA fm_x_check_hues (aC (eV 0) aN))) (sSeq (sEx (eA fm_x_check_row (aC (eV 0) (aC (eV 1) aN)))) (sEx (eA fm_x_check_rule (aC (eV 2) aN)))))
noncomputable def fm_x_check_ruled_row : List D → M D := runF N_x_check_ruled_row.length m_x_check_ruled_row
abbrev N_x_check_row_of : List Str := ["hues", "row"]
theorem nd_x_check_row_of : N_x_check_row_of.Nodup := by decide +kernel
noncomputable def m_x_check_row_of : SH.Env → M Fl := (sSeq (sEx (eA fm_x_check_hues (aC (eV 0) aN))) (sEx (eA fm_x_check_row (aC (eV 0) (aC (eV 1) aN)))))
noncomputable def fm_x_check_row_of : List D → M D := runF N_x_check_row_of.length m_x_check_row_of
abbrev N_x_laid : List Str := ["one", "row", "other", "more", "many", "x"]
theorem nd_x_laid : N_x_laid.Nodup := by decide +kernel
noncomputable def m_x_laid : SH.Env → M Fl := (sSeq (sEx (eA fm_x_check_row_of (aC (eV 0) (aC (eV 1) aN)))) (sSeq (sEx (eA fm_x_check_row_of (aC (eV 2) (aC (eV 3) aN)))) (sSeq (sAsg (e2 addD (eA lenD (aC (eV 1) aN)) (e2 mulD (eA lenD (aC (eV 3) aN)) (eA fm_x_width_of (aC (eV 1) aN)))) (tgN 4)) (sSeq (sIf (bOr (bV (e2 gtD (e2 addD (eV 0) (eV 2)) (eC cd_MOST_HUES))) (bV (e2 gtD (eV 4) (eC cd_MOST_NUMBERS)))) (SX.sRaise 9 (aC (eC (.str "rows laid together have at most 3 hues and 30 numbers")) aN)) sNil) sNever))))
noncomputable def fm_x_laid : List D → M D := runF N_x_laid.length m_x_laid
abbrev N_x_mirrored : List Str := ["hues", "row"]
theorem nd_x_mirrored : N_x_mirrored.Nodup := by decide +kernel
noncomputable def m_x_mirrored : SH.Env → M Fl := (sSeq (sEx (eA fm_x_check_row_of (aC (eV 0) (aC (eV 1) aN)))) sNever)
noncomputable def fm_x_mirrored : List D → M D := runF N_x_mirrored.length m_x_mirrored
abbrev N_x_round_clashes : List Str := ["hues", "row", "rule", "one"]
theorem nd_x_round_clashes : N_x_round_clashes.Nodup := by decide +kernel
noncomputable def m_x_round_clashes : SH.Env → M Fl := (sSeq (sEx (eA fm_x_check_ruled_row (aC (eV 0) (aC (eV 1) (aC (eV 2) aN))))) sNever)
noncomputable def fm_x_round_clashes : List D → M D := runF N_x_round_clashes.length m_x_round_clashes
abbrev N_x_led_round : List Str := ["hues", "row", "by", "turn", "x"]
theorem nd_x_led_round : N_x_led_round.Nodup := by decide +kernel
noncomputable def m_x_led_round : SH.Env → M Fl := (sSeq (sEx (eA fm_x_check_row_of (aC (eV 0) (aC (eV 1) aN)))) sNever)
noncomputable def fm_x_led_round : List D → M D := runF N_x_led_round.length m_x_led_round
abbrev N_x_spread : List Str := ["hues", "row", "times", "many"]
theorem nd_x_spread : N_x_spread.Nodup := by decide +kernel
noncomputable def m_x_spread : SH.Env → M Fl := (sSeq (sEx (eA fm_x_check_row_of (aC (eV 0) (aC (eV 1) aN)))) sNever)
noncomputable def fm_x_spread : List D → M D := runF N_x_spread.length m_x_spread
abbrev N_x_is_settled : List Str := ["hues", "row", "rule", "more", "number", "hue"]
theorem nd_x_is_settled : N_x_is_settled.Nodup := by decide +kernel
noncomputable def m_x_is_settled : SH.Env → M Fl := (sSeq (sEx (eA fm_x_check_ruled_row (aC (eV 0) (aC (eV 1) (aC (eV 2) aN))))) sNever)
noncomputable def fm_x_is_settled : List D → M D := runF N_x_is_settled.length m_x_is_settled
abbrev N_x_led_down : List Str := ["hues", "row", "rule", "beside", "rows", "more", "number", "hue"]
theorem nd_x_led_down : N_x_led_down.Nodup := by decide +kernel
noncomputable def m_x_led_down : SH.Env → M Fl := (sSeq (sEx (eA fm_x_check_ruled_row (aC (eV 0) (aC (eV 1) (aC (eV 2) aN))))) sNever)
noncomputable def fm_x_led_down : List D → M D := runF N_x_led_down.length m_x_led_down
abbrev N_x_is_mirrored : List Str := ["hues", "row"]
theorem nd_x_is_mirrored : N_x_is_mirrored.Nodup := by decide +kernel
noncomputable def m_x_is_mirrored : SH.Env → M Fl := (sRet (e2 (eqD false) (eA fm_x_mirrored (aC (eV 0) (aC (eV 1) aN))) (eV 1)))
noncomputable def fm_x_is_mirrored : List D → M D := runF N_x_is_mirrored.length m_x_is_mirrored
abbrev N_x_is_round : List Str := ["hues", "row", "rule"]
theorem nd_x_is_round : N_x_is_round.Nodup := by decide +kernel
noncomputable def m_x_is_round : SH.Env → M Fl := (sRet (e2 (eqD false) (eA lenD (aC (eA fm_x_round_clashes (aC (eV 0) (aC (eV 1) (aC (eV 2) aN)))) aN)) (eC (.int 0))))
noncomputable def fm_x_is_round : List D → M D := runF N_x_is_round.length m_x_is_round
abbrev NL_3 : List Str := ["_law_one", "_law_two", "_law_three"]
theorem ndL_3 : NL_3.Nodup := by decide +kernel
noncomputable def mL_3 : SH.Env → M D := (eA fm_x_spread (aC (eV 0) (aC (eV 1) (aC (eC .non) aN))))
noncomputable def fmL_3 : List D → M D := SX.lamFm NL_3.length mL_3
abbrev NL_2 : List Str := ["_law_one", "_law_two", "_law_three"]
theorem ndL_2 : NL_2.Nodup := by decide +kernel
noncomputable def mL_2 : SH.Env → M D := (eA fm_x_led_round (aC (eV 0) (aC (eV 1) (aC (eC .non) aN))))
noncomputable def fmL_2 : List D → M D := SX.lamFm NL_2.length mL_2
abbrev NL_1 : List Str := ["_law_one", "_law_two", "_law_three"]
theorem ndL_1 : NL_1.Nodup := by decide +kernel
noncomputable def mL_1 : SH.Env → M D := (eA fm_x_mirrored (aC (eV 0) (aC (eV 1) aN)))
noncomputable def fmL_1 : List D → M D := SX.lamFm NL_1.length mL_1
abbrev NL_0 : List Str := ["_law_one", "_law_two", "_law_three"]
theorem ndL_0 : NL_0.Nodup := by decide +kernel
noncomputable def mL_0 : SH.Env → M D := (eA fm_x_is_mirrored (aC (eV 0) (aC (eV 1) aN)))
noncomputable def fmL_0 : List D → M D := SX.lamFm NL_0.length mL_0
abbrev N_x_law_doors_right : List Str := ["_law_state_here", "_law_hues", "_law_row_here", "_law_calls", "_law_ruled", "_law_call", "_law_none", "_law_bad", "_law_odd"]
theorem nd_x_law_doors_right : N_x_law_doors_right.Nodup := by decide +kernel
noncomputable def m_x_law_doors_right : SH.Env → M Fl := (sSeq (sAsg (eA mTup (aC (eA fm_x_law_no_hues (aC (eV 0) aN)) (aC (eA fm_x_law_no_row (aC (eV 0) (aC (eV 1) aN))) (aC (eA fm_x_law_no_rule (aC (eV 0) aN)) aN)))) (tgT [(tgN 6), (tgN 7), (tgN 8)])) (sSeq (sAsg (eA mLst (aC (eC (.ext 17)) aN)) (tgN 3)) (sSeq (sEx (eM appD (eV 3) (aC (eC (.ext 18)) aN))) (sSeq (sEx (eM appD (eV 3) (aC (eC (.ext 19)) aN))) (sSeq (sEx (eM appD (eV 3) (aC (eC (.ext 20)) aN))) (sSeq (sAsg (eA mLst (aC (eC (.ext 13)) (aC (eC (.ext 14)) (aC (eC (.ext 15)) (aC (eC (.ext 16)) aN))))) (tgN 4)) (sSeq (sFor (iV (e2 addD (eV 3) (eV 4))) (tgN 5) (sSeq (sIf (bV (e2 (eqD true) (SX.eRef 13 (SX.wordF 5 1 m_x_law_word) (SX.eCV 13 ([some fm_x_round_clashes, some fm_x_is_round, some fm_x_is_settled, some fm_x_led_down] ++ [some fmL_0, some fmL_1, some fmL_2, some fmL_3]) (eV 5) (aC (eV 6) (aC (eV 7) (aC (eV 8) aN))))) (eC (.str "hues")))) (sRet (eC (.bl false))) sNil) (sIf (bV (e2 (eqD true) (SX.eRef 13 (SX.wordF 5 1 m_x_law_word) (SX.eCV 13 ([some fm_x_round_clashes, some fm_x_is_round, some fm_x_is_settled, some fm_x_led_down] ++ [some fmL_0, some fmL_1, some fmL_2, some fmL_3]) (eV 5) (aC (eV 1) (aC (eV 7) (aC (eV 8) aN))))) (eC (.str "row")))) (sRet (eC (.bl false))) sNil))) (sSeq (sFor (iV (eV 4)) (tgN 5) (sSeq (sIf (bV (e2 (eqD true) (SX.eRef 13 (SX.wordF 5 1 m_x_law_word) (SX.eCV 13 ([some fm_x_round_clashes, some fm_x_is_round, some fm_x_is_settled, some fm_x_led_down] ++ [some fmL_0, some fmL_1, some fmL_2, some fmL_3]) (eV 5) (aC (eV 1) (aC (eV 2) (aC (eV 8) aN))))) (eC (.str "rule")))) (sRet (eC (.bl false))) sNil) (sIf (bV (e2 (eqD true) (SX.eRef 13 (SX.wordF 5 1 m_x_law_word) (SX.eCV 13 ([some fm_x_round_clashes, some fm_x_is_round, some fm_x_is_settled, some fm_x_led_down] ++ [some fmL_0, some fmL_1, some fmL_2, some fmL_3]) (eV 5) (aC (eV 6) (aC (eV 2) (aC (eV 8) aN))))) (eC (.str "hues")))) (sRet (eC (.bl false))) sNil))) (sRet (eC (.bl true)))))))))))
noncomputable def fm_x_law_doors_right : List D → M D := runF N_x_law_doors_right.length m_x_law_doors_right
abbrev N_x_law_laid_right : List Str := ["_law_state_here", "_law_hues", "_law_row_here", "_law_cases", "_law_none", "_law_bad", "_law_more", "_law_one"]
theorem nd_x_law_laid_right : N_x_law_laid_right.Nodup := by decide +kernel
noncomputable def m_x_law_laid_right : SH.Env → M Fl := (sSeq (sPar3 4 5 6 (aC (eA fm_x_law_no_hues (aC (eV 0) aN)) (aC (eA fm_x_law_no_row (aC (eV 0) (aC (eV 1) aN))) (aC (eA fm_x_law_no_row (aC (eV 0) (aC (eC (.int 3)) aN))) aN)))) (sSeq (sAsg (eA mLst (aC (eA mTup (aC (eV 4) (aC (eV 5) (aC (eV 4) (aC (eV 6) (aC (eC (.str "hues")) aN)))))) (aC (eA mTup (aC (eV 1) (aC (eV 5) (aC (eV 4) (aC (eV 6) (aC (eC (.str "row")) aN)))))) (aC (eA mTup (aC (eV 1) (aC (eV 2) (aC (eV 4) (aC (eV 6) (aC (eC (.str "hues")) aN)))))) aN)))) (tgN 3)) (sSeq (sAsg (e2 addD (eV 3) (eA mLst (aC (eA mTup (aC (eV 1) (aC (eV 2) (aC (eC (.int 3)) (aC (eV 6) (aC (eC (.str "row")) aN)))))) (aC (eA mTup (aC (eV 1) (aC (eV 2) (aC (eC (.int 3)) (aC (eA mTup (aC (eC (.int 0)) (aC (eC (.int 1)) (aC (eC (.int 2)) aN)))) (aC (eC (.str "many")) aN)))))) (aC (eA mTup (aC (eV 4) (aC (eV 2) (aC (eC (.int 3)) (aC (eA mTup aN) (aC (eC (.str "hues")) aN)))))) aN))))) (tgN 3)) (sRet (e2 (eqD false) (eLc (iV (eV 3)) (tgN 7) (bV (e2 (eqD true) (SX.eRef 13 (SX.wordF 5 1 m_x_law_word) (eA fm_x_laid (aC (e2 ixD (eV 7) (eC (.int 0))) (aC (e2 ixD (eV 7) (eC (.int 1))) (aC (e2 ixD (eV 7) (eC (.int 2))) (aC (e2 ixD (eV 7) (eC (.int 3))) aN)))))) (e2 ixD (eV 7) (eC (.int 4))))) (eV 7) [7]) (eA mLst aN))))))
noncomputable def fm_x_law_laid_right : List D → M D := runF N_x_law_laid_right.length m_x_law_laid_right
abbrev N_x_law : List Str := ["_law_script", "_law_k", "_law_state_here", "_law_hues", "_law_row_here"]
theorem nd_x_law : N_x_law.Nodup := by decide +kernel
noncomputable def m_x_law : SH.Env → M Fl := (sSeq (sFor (iR1 (aC (eA maxD (aC (eC (.int 1)) (aC (eA minD (aC (eA lenD (aC (eV 0) aN)) (aC (eC (.int 4)) aN))) aN))) aN)) (tgN 1) (sSeq (sAsg (eA fm_x_law_state (aC (eV 0) (aC (eV 1) aN))) (tgN 2)) (sSeq (sAsg (e2 addD (eC (.int 1)) (eA fm_x_law_take (aC (eV 2) (aC (eC (.int 3)) aN)))) (tgN 3)) (sSeq (sAsg (eA fm_x_law_row (aC (eV 2) (aC (eV 3) (aC (eA fm_x_law_take (aC (eV 2) (aC (eC (.int 31)) aN))) aN)))) (tgN 4)) (sIf (bOr (bNot (SX.bT (eA fm_x_law_doors_right (aC (eV 2) (aC (eV 3) (aC (eV 4) aN)))))) (bNot (SX.bT (eA fm_x_law_laid_right (aC (eV 2) (aC (eV 3) (aC (eV 4) aN))))))) (sRet (eC (.bl false))) sNil))))) (sRet (eC (.bl true))))
noncomputable def fm_x_law : List D → M D := runF N_x_law.length m_x_law
end SK
set_option Elab.async false
set_option linter.all false
set_option maxRecDepth 100000
set_option maxHeartbeats 4000000
namespace SW
open PySem L2 SH
def Wq {α : Type} (r : R α) (Q : α → Store → Prop) (X : Nat → Store → Prop) : Prop := match r with
  | .ok a S => Q a S
  | .exc c S => X c S
  | .bad => False
def U {β γ : Type} (q : β) (x : γ) : Type := Unit
structure Wp {α : Type} (r : R α) (Q : α → Store → Prop) (X : Nat → Store → Prop) (k : U Q X := ()) : Prop where h : Wq r Q X
theorem Wp_def {α : Type} {r : R α} {Q : α → Store → Prop} {X : Nat → Store → Prop} : Wp r Q X = Wq r Q X := propext ⟨fun h => h.h, fun h => ⟨h⟩⟩
theorem Wp_cong {α : Type} {r : R α} {Q Q' : α → Store → Prop} {X : Nat → Store → Prop} (h : ∀ a S, Q a S = Q' a S) : Wp r Q X = Wp r Q' X := by
  have e : Q = Q' := funext fun a => funext fun S => h a S
  subst e; rfl
section
variable {α β : Type} {r : R α} {Q Q' : α → Store → Prop} {X X' : Nat → Store → Prop} {S S' : Store}
theorem Wp.mono (h : Wp r Q X) (hQ : ∀ a S, Q a S → Q' a S) (hX : ∀ c S, X c S → X' c S) : Wp r Q' X' := by
  cases r with
  | ok a S => exact ⟨hQ _ _ h.h⟩
  | exc c S => exact ⟨hX _ _ h.h⟩
  | bad => exact h.h.elim
theorem Wp.imp (h : Wp r Q X) (hQ : ∀ a S, Q a S → Q' a S) : Wp r Q' X := h.mono hQ fun _ _ x => x
abbrev no : Nat → Store → Prop := fun _ _ => False
theorem Wp.no {X : Nat → Store → Prop} (h : Wp r Q no) (hQ : ∀ a S, Q a S → Q' a S) : Wp r Q' X := h.mono hQ fun _ _ x => x.elim
theorem Wp.eq {a : α} (h : r = .ok a S) (k : Q a S) : Wp r Q X := by rw [h]; exact ⟨k⟩
theorem Wp.ex (h : Wp r Q SW.no) : ∃ a S, r = .ok a S ∧ Q a S := by
  cases r with
  | ok a S => exact ⟨a, S, rfl, h.h⟩
  | exc c S => exact h.h.elim
  | bad => exact h.h.elim
theorem w_bind {f : α → M β} {Q : β → Store → Prop} : Wp (r.bind f) Q X = Wp r (fun a S => Wp (f a S) Q X) X := by cases r <;> (first | rfl | (simp only [Wp_def]; done) | (simp only [Wp_def]; rfl))
theorem w_ok {a : α} : Wp (.ok a S) Q X = Q a S := Wp_def
theorem w_exc {c : Nat} : Wp (.exc c S) Q X = X c S := Wp_def
theorem w_bad : Wp .bad Q X = False := Wp_def
theorem w_gd {c : Prop} [Decidable c] : Wp (gd c r) Q X = (c ∧ Wp r Q X) := by
  unfold gd
  by_cases h : c
  · rw [if_pos h]; simp [h]
  · rw [if_neg h]; simp [h, w_bad]
theorem w_gdk {c : Prop} [Decidable c] {a : α} : Wp (gd c (.ok a S)) Q X = (c ∧ Q a S) := by rw [w_gd, w_ok]
theorem w_ite {c : Prop} [Decidable c] {r' : R α} : Wp (if c then r else r') Q X = ((c → Wp r Q X) ∧ (¬c → Wp r' Q X)) := by
  by_cases h : c
  · rw [if_pos h]; simp [h]
  · rw [if_neg h]; simp [h]
theorem w_nE {X : Nat → Store → Prop} : Wp (nE r) Q X = Wp r Q SW.no := by cases r <;> (first | rfl | (simp only [Wp_def]; done) | (simp only [Wp_def]; rfl))
end
section
variable {S : Store} {X : Nat → Store → Prop} {Q : D → Store → Prop} {QB : Bool → Store → Prop} {QL : List D → Store → Prop} {QF : Fl → Store → Prop} {ρ : SH.Env} {a b c : SH.Env → M D} {as : SH.Env → M (List D)} {t u : SH.Env → M Bool}
def atV (o : Option (Option D)) (Q : D → Prop) (k : U Q Q := ()) : Prop := match o with
  | some (some d) => Q d
  | _ => False
theorem atV_some {d : D} {Q : D → Prop} : atV (some (some d)) Q = Q d := rfl
theorem w_eV {i : Nat} : Wp (eV i ρ S) Q X = atV ρ[i]? (fun d => Q d S) := by
  unfold eV atV
  cases ρ[i]? with
  | none => exact Wp_def
  | some o => cases o <;> exact Wp_def
theorem w_eC {d : D} : Wp (eC d ρ S) Q X = Q d S := Wp_def
theorem w_e1 {f : D → M D} : Wp (e1 f a ρ S) Q X = Wp (a ρ S) (fun x S1 => Wp (f x S1) Q X) X := w_bind
theorem w_e2 {f : D → D → M D} : Wp (e2 f a b ρ S) Q X = Wp (a ρ S) (fun x S1 => Wp (b ρ S1) (fun y S2 => Wp (f x y S2) Q X) X) X := by
  unfold e2; rw [w_bind]; (apply Wp_cong; intro x S1); exact w_bind
theorem w_aN : Wp (aN ρ S) QL X = QL [] S := Wp_def
theorem w_aC : Wp (aC a as ρ S) QL X = Wp (a ρ S) (fun x S1 => Wp (as ρ S1) (fun xs S2 => QL (x :: xs) S2) X) X := by
  unfold aC; rw [w_bind]; (apply Wp_cong; intro x S1); rw [w_bind]; (first | rfl | (simp only [Wp_def]; done) | (simp only [Wp_def]; rfl))
theorem w_eA {f : List D → M D} : Wp (eA f as ρ S) Q X = Wp (as ρ S) (fun ds S1 => Wp (f ds S1) Q X) X := w_bind
theorem w_mTup {ds : List D} : Wp (mTup ds S) Q X = (ds.length ≤ sizeLine ∧ Q (.tup ds) S) := w_gdk
theorem w_mLst {ds : List D} : Wp (mLst ds S) Q X = (ds.length ≤ sizeLine ∧ Q (.loc S.length) (S ++ [.lst ds])) := w_gdk
theorem w_asB {k : Bool} : Wp (asB (.bl k) S) QB X = QB k S := Wp_def
theorem w_eAnd : Wp (eAnd a b ρ S) Q X = Wp (a ρ S) (fun x S1 => Wp (asB x S1) (fun c S2 => (c = true → Wp (b ρ S2) Q X) ∧ (c = false → Q (.bl false) S2)) X) X := by
  unfold eAnd; rw [w_bind]; (apply Wp_cong; intro x S1); rw [w_bind]; (apply Wp_cong; intro c S2); rw [w_ite]; cases c <;> simp [w_ok]
theorem w_eOr : Wp (eOr a b ρ S) Q X = Wp (a ρ S) (fun x S1 => Wp (asB x S1) (fun c S2 => (c = true → Q (.bl true) S2) ∧ (c = false → Wp (b ρ S2) Q X)) X) X := by
  unfold eOr; rw [w_bind]; (apply Wp_cong; intro x S1); rw [w_bind]; (apply Wp_cong; intro c S2); rw [w_ite]; cases c <;> simp [w_ok]
theorem w_eNot : Wp (eNot a ρ S) Q X = Wp (a ρ S) (fun x S1 => Wp (asB x S1) (fun c S2 => Q (.bl (!c)) S2) X) X := by
  unfold eNot; rw [w_bind]; (apply Wp_cong; intro x S1); rw [w_bind]; (first | rfl | (simp only [Wp_def]; done) | (simp only [Wp_def]; rfl))
theorem w_eIf : Wp (eIf t a b ρ S) Q X = Wp (t ρ S) (fun k S1 => (k = true → Wp (a ρ S1) Q X) ∧ (k = false → Wp (b ρ S1) Q X)) X := by
  unfold eIf; rw [w_bind]; (apply Wp_cong; intro x S1); rw [w_ite]; cases x <;> simp
theorem w_bV : Wp (bV a ρ S) QB X = Wp (a ρ S) (fun x S1 => Wp (asB x S1) QB X) X := w_bind
theorem w_bAnd : Wp (bAnd t u ρ S) QB X = Wp (t ρ S) (fun k S1 => (k = true → Wp (u ρ S1) QB X) ∧ (k = false → QB false S1)) X := by
  unfold bAnd; rw [w_bind]; (apply Wp_cong; intro x S1); rw [w_ite]; cases x <;> simp [w_ok]
theorem w_bOr : Wp (bOr t u ρ S) QB X = Wp (t ρ S) (fun k S1 => (k = true → QB true S1) ∧ (k = false → Wp (u ρ S1) QB X)) X := by
  unfold bOr; rw [w_bind]; (apply Wp_cong; intro x S1); rw [w_ite]; cases x <;> simp [w_ok]
theorem w_bNot : Wp (bNot t ρ S) QB X = Wp (t ρ S) (fun k S1 => QB (!k) S1) X := by
  unfold bNot; rw [w_bind]; (first | rfl | (simp only [Wp_def]; done) | (simp only [Wp_def]; rfl))
theorem w_bYes : Wp (bYes ρ S) QB X = QB true S := Wp_def
theorem w_eCh {f f' : D → D → M D} : Wp (eCh f f' a b c ρ S) Q X = Wp (a ρ S) (fun x S1 => Wp (b ρ S1) (fun y S2 => Wp (f x y S2) (fun z S3 => Wp (asB z S3) (fun k S4 => (k = true → Wp (c ρ S4) (fun w S5 => Wp (f' y w S5) Q X) X) ∧ (k = false → Q (.bl false) S4)) X) X) X) X := by
  unfold eCh; rw [w_bind]; (apply Wp_cong; intro x S1); rw [w_bind]; (apply Wp_cong; intro y S2); rw [w_bind]; (apply Wp_cong; intro z S3); rw [w_bind]; (apply Wp_cong; intro k S4); rw [w_ite, w_bind]; cases k <;> simp [w_ok]
def onNx (k : SH.Env → Store → Prop) (Q : Fl → Store → Prop) : Fl → Store → Prop
  | .nx ρ, S => k ρ S
  | .rt d, S => Q (.rt d) S
  | .bk ρ, S => Q (.bk ρ) S
  | .ct ρ, S => Q (.ct ρ) S
theorem onNx_nx {k : SH.Env → Store → Prop} : onNx k QF (.nx ρ) S = k ρ S := rfl
theorem onNx_rt {k : SH.Env → Store → Prop} {d : D} : onNx k QF (.rt d) S = QF (.rt d) S := rfl
theorem onNx_bk {k : SH.Env → Store → Prop} : onNx k QF (.bk ρ) S = QF (.bk ρ) S := rfl
theorem onNx_ct {k : SH.Env → Store → Prop} : onNx k QF (.ct ρ) S = QF (.ct ρ) S := rfl
theorem w_sNil : Wp (sNil ρ S) QF X = QF (.nx ρ) S := Wp_def
theorem w_sSeq {m m' : SH.Env → M Fl} : Wp (sSeq m m' ρ S) QF X = Wp (m ρ S) (onNx (fun ρ1 S1 => Wp (m' ρ1 S1) QF X) QF) X := by
  unfold sSeq; rw [w_bind]; (apply Wp_cong; intro f S1); cases f <;> (first | rfl | (simp only [Wp_def]; done) | (simp only [Wp_def]; rfl))
theorem w_sEx : Wp (sEx a ρ S) QF X = Wp (a ρ S) (fun _ S1 => QF (.nx ρ) S1) X := by unfold sEx; rw [w_bind]; (first | rfl | (simp only [Wp_def]; done) | (simp only [Wp_def]; rfl))
theorem w_sRet : Wp (sRet a ρ S) QF X = Wp (a ρ S) (fun d S1 => QF (.rt d) S1) X := by unfold sRet; rw [w_bind]; (first | rfl | (simp only [Wp_def]; done) | (simp only [Wp_def]; rfl))
theorem w_sRetN : Wp (sRetN ρ S) QF X = QF (.rt .non) S := Wp_def
theorem w_sIf {m m' : SH.Env → M Fl} : Wp (sIf t m m' ρ S) QF X = Wp (t ρ S) (fun k S1 => (k = true → Wp (m ρ S1) QF X) ∧ (k = false → Wp (m' ρ S1) QF X)) X := by
  unfold sIf; rw [w_bind]; (apply Wp_cong; intro x S1); rw [w_ite]; cases x <;> simp
def toT (o : Option SH.Env) (Q : SH.Env → Prop) (k : U Q Q := ()) : Prop := match o with
  | some ρ => Q ρ
  | none => False
theorem w_sAsg {tg : Tg} : Wp (sAsg a tg ρ S) QF X = Wp (a ρ S) (fun d S1 => toT (tg d ρ) fun ρ1 => QF (.nx ρ1) S1) X := by
  unfold sAsg; rw [w_bind]; (apply Wp_cong; intro d S1); unfold toT; cases tg d ρ <;> (first | rfl | (simp only [Wp_def]; done) | (simp only [Wp_def]; rfl))
theorem w_tgN {i : Nat} {d : D} {Q : SH.Env → Prop} : toT (tgN i d ρ) Q = Q (ρ.set i (some d)) := rfl
theorem w_tgs0 {Q : SH.Env → Prop} : toT (tgs [] [] ρ) Q = Q ρ := rfl
theorem w_tgs1 {g : Tg} {gs : List Tg} {d : D} {ds : List D} {Q : SH.Env → Prop} : toT (tgs (g :: gs) (d :: ds) ρ) Q = toT (g d ρ) fun ρ1 => toT (tgs gs ds ρ1) Q := by
  show toT ((g d ρ).bind fun ρ1 => tgs gs ds ρ1) Q = _
  cases g d ρ <;> (first | rfl | (simp only [Wp_def]; done) | (simp only [Wp_def]; rfl))
theorem w_tgT {gs : List Tg} {ds : List D} {Q : SH.Env → Prop} : toT (tgT gs (.tup ds) ρ) Q = toT (tgs gs ds ρ) Q := rfl
theorem w_sPar {i j : Nat} : Wp (sPar i j as ρ S) QF X = Wp (as ρ S) (fun ds S1 => Wp (parK i j ρ ds S1) QF X) X := w_bind
theorem w_parK {i j : Nat} {x y : D} : Wp (parK i j ρ [x, y] S) QF X = QF (.nx ((ρ.set i (some x)).set j (some y))) S := Wp_def
def onRt (Q : D → Store → Prop) : Fl → Store → Prop
  | .nx _, S => Q .non S
  | .rt d, S => Q d S
  | _, _ => False
theorem onRt_nx : onRt Q (.nx ρ) S = Q .non S := rfl
theorem onRt_rt {d : D} : onRt Q (.rt d) S = Q d S := rfl
theorem w_runF {n : Nat} {m : SH.Env → M Fl} {ds : List D} : Wp (runF n m ds S) Q X = Wp (m (startE n ds) S) (onRt Q) X := by
  unfold runF; rw [w_bind]; (apply Wp_cong; intro f S1); cases f <;> (first | rfl | (simp only [Wp_def]; done) | (simp only [Wp_def]; rfl))
theorem w_sFor {m : SH.Env → M Src} {tg : Tg} {bd : SH.Env → M Fl} : Wp (sFor m tg bd ρ S) QF X = Wp (m ρ S) (fun s S1 => Wp (forL s tg bd s.items ρ S1) QF X) X := w_bind
theorem w_eLc {m : SH.Env → M Src} {tg : Tg} {q : SH.Env → M Bool} {el : SH.Env → M D} {vs : List Nat} : Wp (eLc m tg q el vs ρ S) Q X = Wp (m ρ S) (fun s S1 => Wp (lcL s tg q el (wipeE ρ vs) s.items [] S1) (fun xs S2 => Q (.loc S2.length) (S2 ++ [.lst xs])) X) X := by
  unfold eLc lcEnd; rw [w_bind]; (apply Wp_cong; intro s S1); rw [w_bind]; (first | rfl | (simp only [Wp_def]; done) | (simp only [Wp_def]; rfl))
theorem w_eLc2 {m m1 : SH.Env → M Src} {tg tg1 : Tg} {q q1 : SH.Env → M Bool} {el : SH.Env → M D} {vs vs1 : List Nat} : Wp (eLc2 m tg q m1 tg1 q1 el vs vs1 ρ S) Q X = Wp (m ρ S) (fun s S1 => Wp (lc2L s tg q m1 tg1 q1 el (wipeE ρ vs) vs1 s.items [] S1) (fun xs S2 => Q (.loc S2.length) (S2 ++ [.lst xs])) X) X := by
  unfold eLc2 lcEnd; rw [w_bind]; (apply Wp_cong; intro s S1); rw [w_bind]; (first | rfl | (simp only [Wp_def]; done) | (simp only [Wp_def]; rfl))
theorem w_eTupG {m : SH.Env → M Src} {tg : Tg} {q : SH.Env → M Bool} {el : SH.Env → M D} {vs : List Nat} : Wp (eTupG m tg q el vs ρ S) Q X = Wp (m ρ S) (fun s S1 => Wp (lcL s tg q el (wipeE ρ vs) s.items [] S1) (fun xs S2 => Q (.tup xs) S2) X) X := by
  unfold eTupG; rw [w_bind]; (apply Wp_cong; intro s S1); rw [w_bind]; (first | rfl | (simp only [Wp_def]; done) | (simp only [Wp_def]; rfl))
theorem w_eAllG {k : Bool} {m : SH.Env → M Src} {tg : Tg} {q : SH.Env → M Bool} {el : SH.Env → M D} {vs : List Nat} : Wp (eAllG k m tg q el vs ρ S) Q X = Wp (m ρ S) (fun s S1 => Wp (allL k s tg q el (wipeE ρ vs) s.items S1) Q X) X := w_bind
variable {QS : Src → Store → Prop}
def srcT (o : Option Src) (Q : Src → Prop) (k : U Q Q := ()) : Prop := match o with
  | some s => Q s
  | none => False
theorem srcT_some {s : Src} {Q : Src → Prop} : srcT (some s) Q = Q s := rfl
theorem w_iV : Wp (iV a ρ S) QS X = Wp (a ρ S) (fun d S1 => srcT (srcD S1 d) fun s => QS s S1) X := by
  unfold iV; rw [w_bind]; (apply Wp_cong; intro d S1); unfold srcT; cases srcD S1 d <;> (first | rfl | (simp only [Wp_def]; done) | (simp only [Wp_def]; rfl))
theorem srcT_tup {xs : List D} {Q : Src → Prop} : srcT (srcD S (.tup xs)) Q = Q ⟨xs, fun _ => True⟩ := rfl
theorem srcT_con {xs : List D} {Q : Src → Prop} : srcT (srcD S (.con xs)) Q = Q ⟨xs, fun _ => True⟩ := rfl
theorem srcT_loc {xs : List D} {l : Nat} {Q : Src → Prop} (h : S[l]? = some (.lst xs)) : srcT (srcD S (.loc l)) Q = Q ⟨xs, fun S => S[l]? = some (.lst xs)⟩ := by
  unfold srcD; simp only [h]; (first | rfl | (simp only [Wp_def]; done) | (simp only [Wp_def]; rfl))
def iR1K (ds : List D) : M Src := fun S1 => match ds with
  | [.int j] => gd (-(2 ^ 62) ≤ j ∧ j < 2 ^ 62) (.ok (rngS 0 j) S1)
  | _ => .bad
def iR2K (ds : List D) : M Src := fun S1 => match ds with
  | [.int i, .int j] => gd (-(2 ^ 62) ≤ i ∧ i < 2 ^ 62 ∧ -(2 ^ 62) ≤ j ∧ j < 2 ^ 62) (.ok (rngS i j) S1)
  | _ => .bad
theorem w_iR1 : Wp (iR1 as ρ S) QS X = Wp (as ρ S) (fun ds S1 => Wp (iR1K ds S1) QS X) X := w_bind
theorem w_iR2 : Wp (iR2 as ρ S) QS X = Wp (as ρ S) (fun ds S1 => Wp (iR2K ds S1) QS X) X := w_bind
theorem w_iR1K {j : Int} : Wp (iR1K [.int j] S) QS X = ((-(2 ^ 62) ≤ j ∧ j < 2 ^ 62) ∧ QS (rngS 0 j) S) := w_gdk
theorem w_iR2K {i j : Int} : Wp (iR2K [.int i, .int j] S) QS X = ((-(2 ^ 62) ≤ i ∧ i < 2 ^ 62 ∧ -(2 ^ 62) ≤ j ∧ j < 2 ^ 62) ∧ QS (rngS i j) S) := w_gdk
def iZpK (ds : List D) : M Src := fun S1 => match ds with
  | [.tup xs, .tup ys] => .ok ⟨zipD xs ys, fun _ => True⟩ S1
  | _ => .bad
theorem w_iZp : Wp (iZp as ρ S) QS X = Wp (as ρ S) (fun ds S1 => Wp (iZpK ds S1) QS X) X := w_bind
theorem w_iZpK {xs ys : List D} : Wp (iZpK [.tup xs, .tup ys] S) QS X = QS ⟨zipD xs ys, fun _ => True⟩ S := Wp_def
def iEnK (z : Int) (ds : List D) : M Src := fun S1 => match ds with
  | [.tup xs] => .ok ⟨enumD z xs, fun _ => True⟩ S1
  | _ => .bad
theorem w_iEn {z : Int} : Wp (iEn z as ρ S) QS X = Wp (as ρ S) (fun ds S1 => Wp (iEnK z ds S1) QS X) X := w_bind
theorem w_iEnK {z : Int} {xs : List D} : Wp (iEnK z [.tup xs] S) QS X = QS ⟨enumD z xs, fun _ => True⟩ S := Wp_def
variable {QO : Option Int → Store → Prop} {QU : Unit → Store → Prop}
theorem w_eSl {lo hi : SH.Env → M (Option Int)} : Wp (eSl a lo hi ρ S) Q X = Wp (a ρ S) (fun x S1 => Wp (lo ρ S1) (fun l S2 => Wp (hi ρ S2) (fun u S3 => Wp (slD x l u S3) Q X) X) X) X := by
  unfold eSl; rw [w_bind]; (apply Wp_cong; intro x S1); rw [w_bind]; (apply Wp_cong; intro l S2); rw [w_bind]
theorem w_pN : Wp (pN ρ S) QO X = QO none S := Wp_def
def pSK (x : D) : M (Option Int) := fun S1 => match x with
  | .int i => .ok (some i) S1
  | _ => .bad
theorem w_pS : Wp (pS a ρ S) QO X = Wp (a ρ S) (fun x S1 => Wp (pSK x S1) QO X) X := w_bind
theorem w_pSK {i : Int} : Wp (pSK (.int i) S) QO X = QO (some i) S := Wp_def
theorem w_slT {xs : List D} {lo hi : Option Int} : Wp (slD (.tup xs) lo hi S) Q X = Q (.tup (cutD xs lo hi)) S := Wp_def
theorem w_slC {xs : List D} {lo hi : Option Int} : Wp (slD (.con xs) lo hi S) Q X = Q (.loc S.length) (S ++ [.lst (cutD xs lo hi)]) := Wp_def
theorem w_sSub {o i : SH.Env → M D} : Wp (sSub a o i ρ S) QF X = Wp (a ρ S) (fun v S1 => Wp (o ρ S1) (fun x S2 => Wp (i ρ S2) (fun y S3 => Wp (setD x y v S3) (fun _ S4 => QF (.nx ρ) S4) X) X) X) X := by
  unfold sSub; rw [w_bind]; (apply Wp_cong; intro x S1); rw [w_bind]; (apply Wp_cong; intro l S2); rw [w_bind]; (apply Wp_cong; intro l S3); rw [w_bind]; (first | rfl | (simp only [Wp_def]; done) | (simp only [Wp_def]; rfl))
def lstT (o : Option (List D)) (Q : Unit → Prop) (k : U Q Q := ()) : Prop := match o with
  | some _ => Q ()
  | none => False
theorem lstT_some {xs : List D} {Q : Unit → Prop} : lstT (some xs) Q = Q () := rfl
theorem w_eM {f : D → List D → M D} {o : SH.Env → M D} : Wp (eM f o as ρ S) Q X = Wp (o ρ S) (fun x S1 => lstT (lItems S1 x) fun _ => (Wp (as ρ S1) (fun ds S2 => Wp (f x ds S2) Q X) X)) X := by
  unfold eM; rw [w_bind]; (apply Wp_cong; intro x S1); unfold lstT; cases lItems S1 x
  · (first | rfl | (simp only [Wp_def]; done) | (simp only [Wp_def]; rfl))
  · exact w_bind
theorem w_app {xs : List D} {l : Nat} {y : D} (h : S[l]? = some (.lst xs)) : Wp (appD (.loc l) [y] S) Q X = (xs.length < sizeLine ∧ Q .non (S.set l (.lst (xs ++ [y])))) := by
  unfold appD; simp only [h]; exact w_gdk
variable {i j : Int}
theorem w_addI : Wp (addD (.int i) (.int j) S) Q X = Q (.int (i + j)) S := Wp_def
theorem w_addT {xs ys : List D} : Wp (addD (.tup xs) (.tup ys) S) Q X = (xs.length + ys.length ≤ sizeLine ∧ Q (.tup (xs ++ ys)) S) := w_gdk
theorem w_addL {xs ys : List D} {l k : Nat} (h : S[l]? = some (.lst xs)) (h' : S[k]? = some (.lst ys)) : Wp (addD (.loc l) (.loc k) S) Q X = (xs.length + ys.length ≤ sizeLine ∧ Q (.loc S.length) (S ++ [.lst (xs ++ ys)])) := by
  unfold addD; simp only [h, h']; exact w_gdk
theorem w_subD : Wp (subD (.int i) (.int j) S) Q X = Q (.int (i - j)) S := Wp_def
theorem w_mulD : Wp (mulD (.int i) (.int j) S) Q X = (((-(2 ^ 64) < i ∧ i < 2 ^ 64) ∨ (-(2 ^ 64) < j ∧ j < 2 ^ 64)) ∧ Q (.int (i * j)) S) := by
  unfold mulD mulI
  by_cases h : (-(2 ^ 64) < i ∧ i < 2 ^ 64) ∨ (-(2 ^ 64) < j ∧ j < 2 ^ 64)
  · simp only [eq_true h, if_true, true_and, w_ok]
  · simp only [eq_false h, if_false, false_and, w_bad]
theorem w_mulT {xs : List D} : Wp (mulD (.tup xs) (.int j) S) Q X = ((-(2 ^ 62) ≤ j ∧ j < 2 ^ 62 ∧ xs.length * j.toNat ≤ sizeLine) ∧ Q (.tup (List.replicate j.toNat xs).flatten) S) := w_gdk
theorem w_mulL {xs : List D} {l : Nat} (h : S[l]? = some (.lst xs)) : Wp (mulD (.loc l) (.int j) S) Q X = ((-(2 ^ 62) ≤ j ∧ j < 2 ^ 62 ∧ xs.length * j.toNat ≤ sizeLine) ∧ Q (.loc S.length) (S ++ [.lst (List.replicate j.toNat xs).flatten])) := by
  unfold mulD; simp only [h]; exact w_gdk
theorem w_intD {f : Int → Int → Option D} {c : Prop} [Decidable c] {d : D} (h : f i j = if c then some d else none) : Wp (intD f (.int i) (.int j) S) Q X = (c ∧ Q d S) := by
  unfold intD
  by_cases hc : c
  · simp only [h, eq_true hc, if_true, true_and, w_ok]
  · simp only [h, eq_false hc, if_false, false_and, w_bad]
theorem w_divD : Wp (divD (.int i) (.int j) S) Q X = ((0 < j ∧ j < 1073741824) ∧ Q (.int (i / j)) S) := w_intD rfl
theorem w_modD : Wp (modD (.int i) (.int j) S) Q X = (0 < j ∧ Q (.int (i % j)) S) := w_intD rfl
theorem w_powD : Wp (powD (.int i) (.int j) S) Q X = ((0 ≤ j ∧ j ≤ 1000000 ∧ i.natAbs < 2 ^ 64) ∧ Q (.int (i ^ j.toNat)) S) := w_intD rfl
theorem w_ltI : Wp (ltI (.int i) (.int j) S) Q X = Q (.bl (decide (i < j))) S := Wp_def
theorem w_leD : Wp (leD (.int i) (.int j) S) Q X = Q (.bl (decide (i ≤ j))) S := Wp_def
theorem w_gtD : Wp (gtD (.int i) (.int j) S) Q X = Q (.bl (decide (j < i))) S := Wp_def
theorem w_geD : Wp (geD (.int i) (.int j) S) Q X = Q (.bl (decide (j ≤ i))) S := Wp_def
theorem w_maxD : Wp (maxD [.int i, .int j] S) Q X = Q (.int (if j > i then j else i)) S := Wp_def
theorem w_minD : Wp (minD [.int i, .int j] S) Q X = Q (.int (if j < i then j else i)) S := Wp_def
theorem w_lenT {xs : List D} : Wp (lenD [.tup xs] S) Q X = Q (.int xs.length) S := Wp_def
theorem w_lenC {xs : List D} : Wp (lenD [.con xs] S) Q X = Q (.int xs.length) S := Wp_def
def atT (o : Option D) (Q : D → Prop) (k : U Q Q := ()) : Prop := match o with
  | some d => Q d
  | none => False
theorem atT_some {d : D} {Q : D → Prop} : atT (some d) Q = Q d := rfl
theorem w_ixT {xs : List D} : Wp (ixD (.tup xs) (.int i) S) Q X = atT (atI xs i) fun d => Q d S := by
  show Wp (match atI xs i with | some d => R.ok d S | none => .bad) Q X = _
  unfold atT; cases atI xs i <;> (first | rfl | (simp only [Wp_def]; done) | (simp only [Wp_def]; rfl))
theorem w_ixC {xs : List D} : Wp (ixD (.con xs) (.int i) S) Q X = atT (atI xs i) fun d => Q d S := by
  show Wp (match atI xs i with | some d => R.ok d S | none => .bad) Q X = _
  unfold atT; cases atI xs i <;> (first | rfl | (simp only [Wp_def]; done) | (simp only [Wp_def]; rfl))
theorem w_ixL {xs : List D} {l : Nat} (h : S[l]? = some (.lst xs)) : Wp (ixD (.loc l) (.int i) S) Q X = atT (atI xs i) fun d => Q d S := by
  simp only [ixD, itemsD, h]; unfold atT; cases atI xs i <;> (first | rfl | (simp only [Wp_def]; done) | (simp only [Wp_def]; rfl))
theorem atI_nat {xs : List D} {k : Nat} {d : D} (h : xs[k]? = some d) : atI xs ((k : Nat) : Int) = some d := by
  have hk : k < xs.length := (List.getElem?_eq_some_iff.mp h).1
  unfold atI ixN
  rw [if_pos (by omega), if_pos (by omega)]
  simpa using h
theorem at0 {x : D} {xs : List D} : atI (x :: xs) 0 = some x := atI_nat (k := 0) rfl
theorem at1 {x y : D} {xs : List D} : atI (x :: y :: xs) 1 = some y := atI_nat (k := 1) rfl
theorem at2 {x y z : D} {xs : List D} : atI (x :: y :: z :: xs) 2 = some z := atI_nat (k := 2) rfl
theorem w_isB {x y neg : Bool} : Wp (isD neg (.bl x) (.bl y) S) Q X = Q (.bl (if neg = true then !(x == y) else x == y)) S := Wp_def
theorem w_raise {k : Nat} : Wp (SX.sRaise k as ρ S) QF X = Wp (as ρ S) (fun _ S1 => X k S1) X := by unfold SX.sRaise; rw [w_bind]; (first | rfl | (simp only [Wp_def]; done) | (simp only [Wp_def]; rfl))
end
end SW
set_option Elab.async false
set_option linter.all false
set_option maxRecDepth 100000
set_option maxHeartbeats 4000000
namespace SW
open PySem L2 SH
def Ex (S S' : Store) : Prop := ∃ g, S' = S ++ g
theorem Ex.refl {S : Store} : Ex S S := ⟨[], by simp⟩
theorem Ex.trans {S S1 S2 : Store} : Ex S S1 → Ex S1 S2 → Ex S S2 := fun ⟨g, h⟩ ⟨k, e⟩ => ⟨g ++ k, by rw [e, h, List.append_assoc]⟩
theorem Ex.new {S : Store} {o : Ob} : Ex S (S ++ [o]) := ⟨[o], rfl⟩
theorem Ex.get {S S' : Store} {l : Nat} {o : Ob} (x : Ex S S') (h : S[l]? = some o) : S'[l]? = some o := by
  obtain ⟨g, rfl⟩ := x
  rw [List.getElem?_append_left (List.getElem?_eq_some_iff.mp h).1]; exact h
theorem Ex.len {S S' : Store} (x : Ex S S') : S.length ≤ S'.length := by
  obtain ⟨g, rfl⟩ := x
  rw [List.length_append]; omega
theorem Ex.set {S T : Store} {l : Nat} {o : Ob} (x : Ex S T) (h : S.length ≤ l) : Ex S (T.set l o) := by
  obtain ⟨g, rfl⟩ := x
  exact ⟨g.set (l - S.length) o, List.set_append_right _ _ h⟩
theorem Ex.snoc {S T : Store} {o : Ob} (x : Ex S T) : Ex S (T ++ [o]) := x.trans .new
theorem get_snoc (S : Store) (o : Ob) : (S ++ [o])[S.length]? = some o := by simp
section
variable {α : Type} {S : Store} {X : Nat → Store → Prop} {Q : D → Store → Prop} {QL : List D → Store → Prop} {QF : Fl → Store → Prop} {ρ ρ0 : SH.Env} {s : Src} {tg : Tg} {bd : SH.Env → M Fl} {q : SH.Env → M Bool} {el : SH.Env → M D}
def onLp (k : SH.Env → Store → Prop) (Q : Fl → Store → Prop) : Fl → Store → Prop
  | .nx ρ, S => k ρ S
  | .ct ρ, S => k ρ S
  | .bk ρ, S => Q (.nx ρ) S
  | .rt d, S => Q (.rt d) S
theorem onLp_nx {k : SH.Env → Store → Prop} : onLp k QF (.nx ρ) S = k ρ S := rfl
theorem onLp_ct {k : SH.Env → Store → Prop} : onLp k QF (.ct ρ) S = k ρ S := rfl
theorem onLp_bk {k : SH.Env → Store → Prop} : onLp k QF (.bk ρ) S = QF (.nx ρ) S := rfl
theorem onLp_rt {k : SH.Env → Store → Prop} {d : D} : onLp k QF (.rt d) S = QF (.rt d) S := rfl
theorem w_forN (h : s.ok S) : Wp (forL s tg bd [] ρ S) QF X = QF (.nx ρ) S := by unfold forL; rw [if_pos h]; (first | rfl | (simp only [Wp_def]; done) | (simp only [Wp_def]; rfl))
theorem w_forC {d : D} {ds : List D} (h : s.ok S) : Wp (forL s tg bd (d :: ds) ρ S) QF X = toT (tg d ρ) fun ρ1 => Wp (bd ρ1 S) (onLp (fun ρ2 S2 => Wp (forL s tg bd ds ρ2 S2) QF X) QF) X := by
  conv => lhs; unfold forL
  rw [if_pos h]
  unfold toT
  cases tg d ρ with
  | none => (first | rfl | (simp only [Wp_def]; done) | (simp only [Wp_def]; rfl))
  | some ρ1 =>
    show Wp (R.bind _ _) QF X = _
    rw [w_bind]; (apply Wp_cong; intro f S1); cases f <;> (first | rfl | (simp only [Wp_def]; done) | (simp only [Wp_def]; rfl))
theorem w_for {xs : List α} {f : α → D} (I : List α → SH.Env → Store → Prop) {its : List D} (hi : its = xs.map f) (h : I [] ρ S)
    (step : ∀ pre x post, xs = pre ++ x :: post → ∀ ρ S, I pre ρ S → s.ok S ∧ toT (tg (f x) ρ) fun ρ1 => Wp (bd ρ1 S) (onLp (I (pre ++ [x])) QF) X)
    (fin : ∀ ρ S, I xs ρ S → s.ok S ∧ QF (.nx ρ) S) : Wp (forL s tg bd its ρ S) QF X := by
  subst hi
  have go : ∀ (post pre : List α) (ρ : SH.Env) (S : Store), xs = pre ++ post → I pre ρ S → Wp (forL s tg bd (post.map f) ρ S) QF X := by
    intro post
    induction post with
    | nil =>
      intro pre ρ S e hI
      rw [List.append_nil] at e; subst e
      obtain ⟨k1, k2⟩ := fin ρ S hI
      rw [List.map_nil, w_forN k1]; exact k2
    | cons x post ih =>
      intro pre ρ S e hI
      obtain ⟨k1, k2⟩ := step pre x post e ρ S hI
      rw [List.map_cons, w_forC k1]
      unfold toT at k2 ⊢
      cases ht : tg (f x) ρ with
      | none => rw [ht] at k2; exact k2.elim
      | some ρ1 =>
        rw [ht] at k2
        refine k2.imp fun a S1 z => ?_
        cases a with
        | nx ρ2 => exact ih (pre ++ [x]) ρ2 S1 (by rw [e]; simp) z
        | ct ρ2 => exact ih (pre ++ [x]) ρ2 S1 (by rw [e]; simp) z
        | bk ρ2 => exact z
        | rt d => exact z
  exact go xs [] ρ S rfl h
theorem w_lcN {acc : List D} (h : s.ok S) : Wp (lcL s tg q el ρ0 [] acc S) QL X = QL acc S := by unfold lcL; rw [if_pos h]; (first | rfl | (simp only [Wp_def]; done) | (simp only [Wp_def]; rfl))
theorem w_lcC {d : D} {ds acc : List D} (h : s.ok S) : Wp (lcL s tg q el ρ0 (d :: ds) acc S) QL X = toT (tg d ρ0) fun ρ1 => Wp (q ρ1 S) (fun k S1 => (k = true → Wp (el ρ1 S1) (fun y S2 => acc.length < sizeLine ∧ Wp (lcL s tg q el ρ0 ds (acc ++ [y]) S2) QL X) no) ∧ (k = false → Wp (lcL s tg q el ρ0 ds acc S1) QL X)) no := by
  conv => lhs; unfold lcL
  rw [if_pos h]
  unfold toT
  cases tg d ρ0 with
  | none => (first | rfl | (simp only [Wp_def]; done) | (simp only [Wp_def]; rfl))
  | some ρ1 =>
    show Wp (R.bind _ _) QL X = Wp (q ρ1 S) _ no
    rw [w_bind, w_nE]
    cases q ρ1 S with
    | bad => (first | rfl | (simp only [Wp_def]; done) | (simp only [Wp_def]; rfl))
    | exc c S1 => (first | rfl | (simp only [Wp_def]; done) | (simp only [Wp_def]; rfl))
    | ok k S1 =>
      rw [w_ok, w_ok, w_ite]
      cases k with
      | false => simp
      | true =>
        simp only [true_implies, not_true, false_implies, and_true, Bool.true_eq_false]
        rw [w_bind, w_nE]
        cases el ρ1 S1 with
        | bad => (first | rfl | (simp only [Wp_def]; done) | (simp only [Wp_def]; rfl))
        | exc c S2 => (first | rfl | (simp only [Wp_def]; done) | (simp only [Wp_def]; rfl))
        | ok y S2 => rw [w_ok, w_ok]; exact w_gd
theorem w_lcI {xs : List α} {f : α → D} (I : List α → List D → Store → Prop) {its acc0 : List D} (hi : its = xs.map f) (h : I [] acc0 S)
    (step : ∀ pre x post, xs = pre ++ x :: post → ∀ acc S, I pre acc S → s.ok S ∧ toT (tg (f x) ρ0) fun ρ1 => Wp (q ρ1 S) (fun k S1 => (k = true → Wp (el ρ1 S1) (fun y S2 => acc.length < sizeLine ∧ I (pre ++ [x]) (acc ++ [y]) S2) no) ∧ (k = false → I (pre ++ [x]) acc S1)) no)
    (fin : ∀ acc S, I xs acc S → s.ok S ∧ QL acc S) : Wp (lcL s tg q el ρ0 its acc0 S) QL X := by
  subst hi
  have go : ∀ (post pre : List α) (acc : List D) (S : Store), xs = pre ++ post → I pre acc S → Wp (lcL s tg q el ρ0 (post.map f) acc S) QL X := by
    intro post
    induction post with
    | nil =>
      intro pre acc S e hI
      rw [List.append_nil] at e; subst e
      obtain ⟨k1, k2⟩ := fin acc S hI
      rw [List.map_nil, w_lcN k1]; exact k2
    | cons x post ih =>
      intro pre acc S e hI
      obtain ⟨k1, k2⟩ := step pre x post e acc S hI
      rw [List.map_cons, w_lcC k1]
      unfold toT at k2 ⊢
      cases ht : tg (f x) ρ0 with
      | none => rw [ht] at k2; exact k2.elim
      | some ρ1 =>
        rw [ht] at k2
        refine k2.imp fun k S1 z => ⟨fun hk => (z.1 hk).imp fun y S2 w => ⟨w.1, ih (pre ++ [x]) _ S2 (by rw [e]; simp) w.2⟩, fun hk => ih (pre ++ [x]) acc S1 (by rw [e]; simp) (z.2 hk)⟩
  exact go xs [] acc0 S rfl h
theorem w_lc {xs : List α} {f : α → D} (p : α → Bool) (g : α → D) {its acc0 : List D} (hi : its = xs.map f) (hok : ∀ S', Ex S S' → s.ok S') (hl : acc0.length + xs.length ≤ sizeLine)
    (step : ∀ x ∈ xs, ∀ S', Ex S S' → toT (tg (f x) ρ0) fun ρ1 => Wp (q ρ1 S') (fun k S1 => k = p x ∧ Ex S' S1 ∧ (p x = true → Wp (el ρ1 S1) (fun y S2 => y = g x ∧ Ex S1 S2) no)) no)
    (fin : ∀ S', Ex S S' → QL (acc0 ++ (xs.filter p).map g) S') : Wp (lcL s tg q el ρ0 its acc0 S) QL X := by
  refine w_lcI (fun pre acc S' => Ex S S' ∧ acc = acc0 ++ (pre.filter p).map g) hi ⟨.refl, by simp⟩ ?_ ?_
  · intro pre x post e acc S' ⟨x1, ha⟩
    refine ⟨hok S' x1, ?_⟩
    have h1 := step x (by rw [e]; simp) S' x1
    unfold toT at h1 ⊢
    cases ht : tg (f x) ρ0 with
    | none => rw [ht] at h1; exact h1.elim
    | some ρ1 =>
      rw [ht] at h1
      refine h1.imp fun k S1 ⟨hk, x2, z⟩ => ⟨fun h => (z (hk ▸ h)).imp fun y S2 ⟨hy, x3⟩ => ⟨?_, (x1.trans x2).trans x3, ?_⟩, fun h => ⟨x1.trans x2, ?_⟩⟩
      · have : (pre.filter p).length ≤ pre.length := List.length_filter_le _ _
        rw [e] at hl
        simp at hl
        rw [ha]; simp; omega
      · have hp : p x = true := hk ▸ h
        rw [ha, hy, List.filter_append, List.filter_cons_of_pos hp]; simp
      · have hp : ¬p x = true := by rw [← hk, h]; decide
        rw [ha, List.filter_append, List.filter_cons_of_neg hp]; simp
  · intro acc S' ⟨x1, ha⟩
    exact ⟨hok S' x1, ha ▸ fin S' x1⟩
theorem w_lcA {xs : List α} {f : α → D} (g : α → D) {its : List D} (hi : its = xs.map f) (hok : ∀ S', Ex S S' → s.ok S') (hl : xs.length ≤ sizeLine)
    (step : ∀ x ∈ xs, ∀ S', Ex S S' → toT (tg (f x) ρ0) fun ρ1 => Wp (el ρ1 S') (fun y S2 => y = g x ∧ Ex S' S2) no)
    (fin : ∀ S', Ex S S' → QL (xs.map g) S') : Wp (lcL s tg bYes el ρ0 its [] S) QL X := by
  refine w_lc (fun _ => true) g hi hok (by simpa using hl) (fun x hx S' x' => ?_) fun S' x' => by rw [List.filter_eq_self.mpr (fun _ _ => rfl)]; simpa using fin S' x'
  have := step x hx S' x'
  unfold toT at this ⊢
  cases ht : tg (f x) ρ0 with
  | none => rw [ht] at this; exact this.elim
  | some ρ1 => rw [ht] at this; exact ⟨⟨rfl, .refl, fun _ => this⟩⟩
theorem w_lcF {xs : List α} {f : α → D} (p : α → Bool) (g : α → D) {its : List D} (hi : its = xs.map f) (hok : ∀ S', Ex S S' → s.ok S') (hl : xs.length ≤ sizeLine)
    (step : ∀ x ∈ xs, ∀ S', Ex S S' → toT (tg (f x) ρ0) fun ρ1 => Wp (q ρ1 S') (fun k S1 => k = p x ∧ Ex S' S1 ∧ (p x = true → Wp (el ρ1 S1) (fun y S2 => y = g x ∧ Ex S1 S2) no)) no)
    (fin : ∀ S', Ex S S' → QL ((xs.filter p).map g) S') : Wp (lcL s tg q el ρ0 its [] S) QL X :=
  w_lc p g hi hok (by simpa using hl) step fun S' x' => by simpa using fin S' x'
theorem w_allN {k : Bool} (h : s.ok S) : Wp (allL k s tg q el ρ0 [] S) Q X = Q (.bl k) S := by unfold allL; rw [if_pos h]; (first | rfl | (simp only [Wp_def]; done) | (simp only [Wp_def]; rfl))
theorem w_allC {k : Bool} {d : D} {ds : List D} (h : s.ok S) : Wp (allL k s tg q el ρ0 (d :: ds) S) Q X = toT (tg d ρ0) fun ρ1 => Wp (q ρ1 S) (fun c S1 => (c = true → Wp (el ρ1 S1) (fun y S2 => Wp (asB y S2) (fun b S3 => (b = k → Wp (allL k s tg q el ρ0 ds S3) Q X) ∧ (b ≠ k → Q (.bl (!k)) S3)) X) no) ∧ (c = false → Wp (allL k s tg q el ρ0 ds S1) Q X)) no := by
  conv => lhs; unfold allL
  rw [if_pos h]
  unfold toT
  cases tg d ρ0 with
  | none => (first | rfl | (simp only [Wp_def]; done) | (simp only [Wp_def]; rfl))
  | some ρ1 =>
    show Wp (R.bind _ _) Q X = Wp (q ρ1 S) _ no
    rw [w_bind, w_nE]
    cases q ρ1 S with
    | bad => (first | rfl | (simp only [Wp_def]; done) | (simp only [Wp_def]; rfl))
    | exc c S1 => (first | rfl | (simp only [Wp_def]; done) | (simp only [Wp_def]; rfl))
    | ok c S1 =>
      rw [w_ok, w_ok, w_ite]
      cases c with
      | false => simp
      | true =>
        simp only [true_implies, not_true, false_implies, and_true, Bool.true_eq_false]
        rw [w_bind, w_nE]
        cases el ρ1 S1 with
        | bad => (first | rfl | (simp only [Wp_def]; done) | (simp only [Wp_def]; rfl))
        | exc c S2 => (first | rfl | (simp only [Wp_def]; done) | (simp only [Wp_def]; rfl))
        | ok y S2 =>
          rw [w_ok, w_ok, w_bind]
          (apply Wp_cong; intro b S3)
          rw [w_ite]; (first | rfl | (simp only [Wp_def]; done) | (simp only [Wp_def]; rfl))
theorem w_allP {xs : List α} {f : α → D} (p : α → Bool) {k : Bool} {its : List D} (hi : its = xs.map f) (hok : s.ok S)
    (step : ∀ x ∈ xs, toT (tg (f x) ρ0) fun ρ1 => Wp (q ρ1 S) (fun c S1 => c = true ∧ S1 = S ∧ Wp (el ρ1 S) (fun y S2 => y = .bl (p x) ∧ S2 = S) no) no)
    (fin : Q (.bl (if k = true then xs.all p else xs.any p)) S) : Wp (allL k s tg q el ρ0 its S) Q X := by
  subst hi
  have go : ∀ (post : List α), (∀ x ∈ post, x ∈ xs) → Q (.bl (if k = true then post.all p else post.any p)) S → Wp (allL k s tg q el ρ0 (post.map f) S) Q X := by
    intro post
    induction post with
    | nil => intro _ fin'; rw [List.map_nil, w_allN hok]; cases k <;> simpa using fin'
    | cons x post ih =>
      intro hm fin'
      have h1 := step x (hm x (by simp))
      rw [List.map_cons, w_allC hok]
      unfold toT at h1 ⊢
      cases ht : tg (f x) ρ0 with
      | none => rw [ht] at h1; exact h1.elim
      | some ρ1 =>
        rw [ht] at h1
        refine h1.imp fun c S1 ⟨hc, x2, z⟩ => ⟨fun _ => ?_, fun h => by rw [hc] at h; cases h⟩
        subst x2
        refine z.imp fun y S2 ⟨hy, x3⟩ => ?_
        subst hy x3
        rw [w_asB]
        refine ⟨fun hb => ih (fun y hy => hm y (by simp [hy])) ?_, fun hb => ?_⟩
        · cases k <;> simpa [hb] using fin'
        · have hb' : p x = !k := by cases hp : p x <;> cases k <;> simp_all
          cases k <;> simpa [hb'] using fin'
  exact go xs (fun _ h => h) fin
theorem Wp.pure {β : Type} {r : R β} {v : β} (h : Wp r (fun d S' => d = v ∧ S' = S) SW.no) : r = .ok v S := by
  obtain ⟨a, S', e, rfl, rfl⟩ := h.ex
  exact e
theorem Wp.rais {β : Type} {r : R β} {c : Nat} (h : Wp r (fun _ _ => False) (fun k S' => k = c ∧ S' = S)) : r = .exc c S := by
  cases r with
  | ok a S1 => exact h.h.elim
  | bad => exact h.h.elim
  | exc k S1 => obtain ⟨rfl, rfl⟩ := h.h; rfl
theorem Wp.rw {β : Type} {r r' : R β} {Q : β → Store → Prop} (h : r = r') (k : Wp r' Q X) : Wp r Q X := h ▸ k
end
end SW
set_option Elab.async false
set_option linter.all false
set_option maxRecDepth 100000
set_option maxHeartbeats 4000000
namespace SW
open PySem L2 SH
section
variable {S : Store} {X : Nat → Store → Prop} {Q : D → Store → Prop} {QF : Fl → Store → Prop} {QU : Unit → Store → Prop} {ρ : SH.Env}
theorem isi_int_int {i : Int} : isiD [(.int i), .ty "int"] S = .ok (.bl true) S := rfl
theorem isi_int_bool {i : Int} : isiD [(.int i), .ty "bool"] S = .ok (.bl false) S := rfl
theorem isi_int_tuple {i : Int} : isiD [(.int i), .ty "tuple"] S = .ok (.bl false) S := rfl
theorem isi_int_list {i : Int} : isiD [(.int i), .ty "list"] S = .ok (.bl false) S := rfl
theorem isi_bl_int {b : Bool} : isiD [(.bl b), .ty "int"] S = .ok (.bl true) S := rfl
theorem isi_bl_bool {b : Bool} : isiD [(.bl b), .ty "bool"] S = .ok (.bl true) S := rfl
theorem isi_bl_tuple {b : Bool} : isiD [(.bl b), .ty "tuple"] S = .ok (.bl false) S := rfl
theorem isi_bl_list {b : Bool} : isiD [(.bl b), .ty "list"] S = .ok (.bl false) S := rfl
theorem isi_non_int  : isiD [.non, .ty "int"] S = .ok (.bl false) S := rfl
theorem isi_non_bool  : isiD [.non, .ty "bool"] S = .ok (.bl false) S := rfl
theorem isi_non_tuple  : isiD [.non, .ty "tuple"] S = .ok (.bl false) S := rfl
theorem isi_non_list  : isiD [.non, .ty "list"] S = .ok (.bl false) S := rfl
theorem isi_str_int {s : Str} : isiD [(.str s), .ty "int"] S = .ok (.bl false) S := rfl
theorem isi_str_bool {s : Str} : isiD [(.str s), .ty "bool"] S = .ok (.bl false) S := rfl
theorem isi_str_tuple {s : Str} : isiD [(.str s), .ty "tuple"] S = .ok (.bl false) S := rfl
theorem isi_str_list {s : Str} : isiD [(.str s), .ty "list"] S = .ok (.bl false) S := rfl
theorem isi_tup_int {xs : List D} : isiD [(.tup xs), .ty "int"] S = .ok (.bl false) S := rfl
theorem isi_tup_bool {xs : List D} : isiD [(.tup xs), .ty "bool"] S = .ok (.bl false) S := rfl
theorem isi_tup_tuple {xs : List D} : isiD [(.tup xs), .ty "tuple"] S = .ok (.bl true) S := rfl
theorem isi_tup_list {xs : List D} : isiD [(.tup xs), .ty "list"] S = .ok (.bl false) S := rfl
theorem isi_con_int {xs : List D} : isiD [(.con xs), .ty "int"] S = .ok (.bl false) S := rfl
theorem isi_con_tuple {xs : List D} : isiD [(.con xs), .ty "tuple"] S = .ok (.bl false) S := rfl
theorem isN_int {i : Int} {neg : Bool} : isD neg (.int i) .non S = .ok (.bl neg) S := by cases neg <;> rfl
theorem isN_bl {b : Bool} {neg : Bool} : isD neg (.bl b) .non S = .ok (.bl neg) S := by cases neg <;> rfl
theorem isN_str {s : Str} {neg : Bool} : isD neg (.str s) .non S = .ok (.bl neg) S := by cases neg <;> rfl
theorem isN_tup {xs : List D} {neg : Bool} : isD neg (.tup xs) .non S = .ok (.bl neg) S := by cases neg <;> rfl
theorem isN_loc {l : Nat} {neg : Bool} : isD neg (.loc l) .non S = .ok (.bl neg) S := by cases neg <;> rfl
theorem isN_non {neg : Bool} : isD neg .non .non S = .ok (.bl !neg) S := by cases neg <;> rfl
def intT (d : D) (Q : Int → Prop) (k : U Q Q := ()) : Prop := match d with
  | .int i => Q i
  | _ => False
theorem intT_int {i : Int} {Q : Int → Prop} : intT (.int i) Q = Q i := rfl
theorem w_fs0 : Wp (SX.fsM [] ρ S) QU X = QU () S := Wp_def
theorem w_fs1 {m : SH.Env → M D} {r : List (SH.Env → M D)} : Wp (SX.fsM (m :: r) ρ S) QU X = Wp (m ρ S) (fun d S1 => intT d fun i => (0 ≤ i ∧ i < 1100) ∧ Wp (SX.fsM r ρ S1) QU X) X := by
  show Wp (R.bind _ _) QU X = _
  rw [w_bind]; (apply Wp_cong; intro d S1)
  cases d <;> first | exact Wp_def | skip
  rename_i i
  show Wp (if 0 ≤ i ∧ i < 1100 then _ else _) QU X = _
  rw [w_ite]
  by_cases h : 0 ≤ i ∧ i < 1100
  · simp [h, intT]
  · simp only [h, intT, false_implies, true_and, not_false_eq_true, true_implies, false_and, w_bad]
theorem w_raiseF {k : Nat} {ms : List (SH.Env → M D)} : Wp (SX.sRaiseF k ms ρ S) QF X = Wp (SX.fsM ms ρ S) (fun _ S1 => X k S1) X := by unfold SX.sRaiseF; rw [w_bind]; (first | rfl | (simp only [Wp_def]; done) | (simp only [Wp_def]; rfl))
theorem w_eRef {nc : Nat} {fw : Option Nat → M D} {mb : SH.Env → M D} : Wp (SX.eRef nc fw mb ρ S) Q X = Wp (mb ρ S) (fun _ S1 => Wp (fw none S1) Q X) (fun c S1 => c < nc ∧ Wp (fw (some c) S1) Q X) := by
  unfold SX.eRef
  cases mb ρ S with
  | ok d S1 => (first | rfl | (simp only [Wp_def]; done) | (simp only [Wp_def]; rfl))
  | bad => (first | rfl | (simp only [Wp_def]; done) | (simp only [Wp_def]; rfl))
  | exc c S1 =>
    rw [w_exc]
    show Wp (if c < nc then _ else _) Q X = (c < nc ∧ _)
    rw [w_ite]
    by_cases h : c < nc <;> simp [h, w_bad]
theorem w_wordF {n it : Nat} {m : SH.Env → M Fl} {o : Option Nat} : Wp (SX.wordF n it m o S) Q X = Wp (m ((List.replicate n none).set it (some (SX.errD o))) S) (onRt Q) X := by
  unfold SX.wordF; rw [w_bind]; (apply Wp_cong; intro f S1); cases f <;> (first | rfl | (simp only [Wp_def]; done) | (simp only [Wp_def]; rfl))
def exT (d : D) (n : Nat) (fe : Nat → Bool) (Q : D → Prop) (k : U Q Q := ()) : Prop := match d with
  | .ext c => c < n ∧ Q (.bl (fe c))
  | .non => Q (.bl false)
  | _ => False
theorem exT_ext {c n : Nat} {fe : Nat → Bool} {Q : D → Prop} : exT (.ext c) n fe Q = (c < n ∧ Q (.bl (fe c))) := rfl
theorem exT_non {n : Nat} {fe : Nat → Bool} {Q : D → Prop} : exT .non n fe Q = Q (.bl false) := rfl
theorem w_eIs {n : Nat} {fe : Nat → Bool} {me : SH.Env → M D} : Wp (SX.eIs n fe me ρ S) Q X = Wp (me ρ S) (fun d S1 => exT d n fe fun y => Q y S1) X := by
  unfold SX.eIs; rw [w_bind]; (apply Wp_cong; intro d S1)
  cases d <;> first | exact Wp_def | skip
  rename_i c
  show Wp (if c < n then _ else _) Q X = (c < n ∧ _)
  rw [w_ite]
  by_cases h : c < n <;> simp [h, w_bad, w_ok]
theorem errD_some {c : Nat} : SX.errD (some c) = .ext c := rfl
theorem errD_none : SX.errD none = .non := rfl
theorem isNX_ext {c : Nat} {neg : Bool} : SX.isNX neg (.ext c) .non S = .ok (.bl neg) S := rfl
theorem isNX_non {neg : Bool} : SX.isNX neg .non .non S = .ok (.bl !neg) S := by cases neg <;> rfl
theorem bls_map : ∀ {bs : List Bool}, blsO (bs.map D.bl) = some bs
  | [] => rfl
  | b :: bs => by simp only [List.map_cons, blsO, bls_map (bs := bs)]; rfl
theorem w_cnt {l : Nat} {bs : List Bool} {b : Bool} (h : S[l]? = some (.lst (bs.map D.bl))) : Wp (SX.cntD (.loc l) [.bl b] S) Q X = Q (.int (bs.countP (· == b) : Nat)) S := by
  unfold SX.cntD; simp only [lItems, h, bls_map]; exact Wp_def
theorem w_ixb {l j : Nat} {bs : List Bool} {b : Bool} (h : S[l]? = some (.lst (bs.map D.bl))) (hj : bs.findIdx? (· == b) = some j) : Wp (SX.ixbD (.loc l) [.bl b] S) Q X = Q (.int (j : Nat)) S := by
  unfold SX.ixbD; simp only [lItems, h, bls_map, hj]; exact Wp_def
theorem isi_loc {l : Nat} {n : String} {k : Kd} (hn : Kd.of n = some k) (h1 : Kd.lst.sub k = false) (h2 : Kd.dct.sub k = false) (h : (kdD S (.loc l)).isSome = true) : isiD [.loc l, .ty n] S = .ok (.bl false) S := by
  unfold isiD
  cases e : S[l]? with
  | none => simp [kdD, e] at h
  | some o => cases o with
    | ins fs => simp [kdD, e] at h
    | lst xs => simp only [kdD, e, hn, h1]
    | dct xs => simp only [kdD, e, hn, h2]
    | dtt xs => simp [kdD, e] at h
def lk (o : Option Ob) (K : List D → Prop) (k : U K K := ()) : Prop := match o with
  | some (.lst xs) => K xs
  | _ => False
theorem lk_some {xs : List D} {K : List D → Prop} : lk (some (.lst xs)) K = K xs := rfl
def lk2 (o : Option Ob) (K : List D → Prop) (K2 : List (Key × D) → Prop) (k : U K K2 := ()) : Prop := match o with
  | some (.lst xs) => K xs
  | some (.dct xs) => K2 xs
  | _ => False
theorem lk2_lst {xs : List D} {K : List D → Prop} {K2 : List (Key × D) → Prop} : lk2 (some (.lst xs)) K K2 = K xs := rfl
theorem lk2_dct {xs : List (Key × D)} {K : List D → Prop} {K2 : List (Key × D) → Prop} : lk2 (some (.dct xs)) K K2 = K2 xs := rfl
theorem w_ixLk {l : Nat} {i : Int} : Wp (ixD (.loc l) (.int i) S) Q X = lk S[l]? fun xs => atT (atI xs i) fun d => Q d S := by
  unfold lk
  cases h : S[l]? with
  | none => simp only [ixD, itemsD, h]; exact Wp_def
  | some o => cases o with
    | lst xs => exact w_ixL h
    | dct kvs => simp only [ixD, itemsD, h]; exact Wp_def
    | dtt kvs => simp only [ixD, itemsD, h]; exact Wp_def
    | ins fs => simp only [ixD, itemsD, h]; exact Wp_def
theorem w_lenLk {l : Nat} : Wp (lenD [.loc l] S) Q X = lk2 S[l]? (fun xs => Q (.int xs.length) S) fun kvs => Q (.int kvs.length) S := by
  unfold lk2
  cases h : S[l]? with
  | none => simp only [lenD, h]; exact Wp_def
  | some o => cases o <;> simp only [lenD, h] <;> exact Wp_def
theorem w_slLk {l : Nat} {lo hi : Option Int} : Wp (slD (.loc l) lo hi S) Q X = lk S[l]? fun xs => Q (.loc S.length) (S ++ [.lst (cutD xs lo hi)]) := by
  unfold lk
  cases h : S[l]? with
  | none => simp only [slD, h]; exact Wp_def
  | some o => cases o <;> simp only [slD, h] <;> exact Wp_def
theorem w_addLk {l k : Nat} : Wp (addD (.loc l) (.loc k) S) Q X = lk S[l]? fun xs => lk S[k]? fun ys => xs.length + ys.length ≤ sizeLine ∧ Q (.loc S.length) (S ++ [.lst (xs ++ ys)]) := by
  unfold lk
  cases h : S[l]? with
  | none => simp only [addD, h]; exact Wp_def
  | some o => cases o with
    | dct kvs => simp only [addD, h]; exact Wp_def
    | dtt kvs => simp only [addD, h]; exact Wp_def
    | ins fs => simp only [addD, h]; exact Wp_def
    | lst xs => cases h' : S[k]? with
      | none => simp only [addD, h, h']; exact Wp_def
      | some o => cases o with
        | lst ys => exact w_addL h h'
        | dct kvs => simp only [addD, h, h']; exact Wp_def
        | dtt kvs => simp only [addD, h, h']; exact Wp_def
        | ins fs => simp only [addD, h, h']; exact Wp_def
theorem w_mulLk {l : Nat} {j : Int} : Wp (mulD (.loc l) (.int j) S) Q X = lk S[l]? fun xs => (-(2 ^ 62) ≤ j ∧ j < 2 ^ 62 ∧ xs.length * j.toNat ≤ sizeLine) ∧ Q (.loc S.length) (S ++ [.lst (List.replicate j.toNat xs).flatten]) := by
  unfold lk
  cases h : S[l]? with
  | none => simp only [mulD, h]; exact Wp_def
  | some o => cases o with
    | lst xs => exact w_mulL h
    | dct kvs => simp only [mulD, h]; exact Wp_def
    | dtt kvs => simp only [mulD, h]; exact Wp_def
    | ins fs => simp only [mulD, h]; exact Wp_def
theorem w_appLk {l : Nat} {y : D} : Wp (appD (.loc l) [y] S) Q X = lk S[l]? fun xs => xs.length < sizeLine ∧ Q .non (S.set l (.lst (xs ++ [y]))) := by
  unfold lk
  cases h : S[l]? with
  | none => simp only [appD, h]; exact Wp_def
  | some o => cases o with
    | lst xs => exact w_app h
    | dct kvs => simp only [appD, h]; exact Wp_def
    | dtt kvs => simp only [appD, h]; exact Wp_def
    | ins fs => simp only [appD, h]; exact Wp_def
theorem srcT_lk {l : Nat} {Q : Src → Prop} : srcT (srcD S (.loc l)) Q = lk S[l]? fun xs => Q ⟨xs, fun S => S[l]? = some (.lst xs)⟩ := by
  unfold lk
  cases h : S[l]? with
  | none => simp only [srcD, h]; rfl
  | some o => cases o with
    | lst xs => exact srcT_loc h
    | dct kvs => simp only [srcD, h]; rfl
    | dtt kvs => simp only [srcD, h]; rfl
    | ins fs => simp only [srcD, h]; rfl
theorem lstT_lk {l : Nat} {Q : Unit → Prop} : lstT (lItems S (.loc l)) Q = lk S[l]? fun _ => Q () := by
  unfold lk
  cases h : S[l]? with
  | none => simp only [lItems, h]; rfl
  | some o => cases o <;> simp only [lItems, h] <;> rfl
variable {QB : Bool → Store → Prop}
theorem w_bT {a : SH.Env → M D} : Wp (SX.bT a ρ S) QB X = Wp (a ρ S) (fun x S1 => Wp (SX.truD x S1) QB X) X := w_bind
theorem w_truB {b : Bool} : Wp (SX.truD (.bl b) S) QB X = QB b S := Wp_def
theorem w_truN : Wp (SX.truD .non S) QB X = QB false S := Wp_def
theorem w_truI {i : Int} : Wp (SX.truD (.int i) S) QB X = QB (i != 0) S := Wp_def
theorem w_truT {xs : List D} : Wp (SX.truD (.tup xs) S) QB X = QB (!xs.isEmpty) S := Wp_def
theorem w_truLk {l : Nat} : Wp (SX.truD (.loc l) S) QB X = lk S[l]? fun xs => QB (!xs.isEmpty) S := by
  unfold lk
  cases h : S[l]? with
  | none => simp only [SX.truD, h]; exact Wp_def
  | some o => cases o <;> simp only [SX.truD, h] <;> exact Wp_def
def ixT (o : Option Nat) (K : Nat → Prop) (k : U K K := ()) : Prop := match o with
  | some j => K j
  | none => False
theorem ixT_some {j : Nat} {K : Nat → Prop} : ixT (some j) K = K j := rfl
theorem w_setLk {l : Nat} {k : Int} {v : D} {QU : Unit → Store → Prop} : Wp (setD (.loc l) (.int k) v S) QU X = lk S[l]? fun xs => ixT (ixN xs.length k) fun j => QU () (S.set l (.lst (xs.set j v))) := by
  unfold lk ixT
  cases h : S[l]? with
  | none => simp only [setD, h]; exact Wp_def
  | some o => cases o with
    | dct kvs => simp only [setD, h]; exact Wp_def
    | dtt kvs => simp only [setD, h]; exact Wp_def
    | ins fs => simp only [setD, h]; exact Wp_def
    | lst xs => simp only [setD, h]; cases ixN xs.length k <;> exact Wp_def
theorem ixN_nat {n k : Nat} (h : k < n) : ixN n ((k : Nat) : Int) = some k := by
  unfold ixN
  rw [if_pos (by omega), if_pos (by omega)]; simp
theorem ixN_0 {n : Nat} : ixN (n + 1) 0 = some 0 := ixN_nat (k := 0) (by omega)
theorem ixN_1 {n : Nat} : ixN (n + 2) 1 = some 1 := ixN_nat (k := 1) (by omega)
theorem set_snoc {o o' : Ob} : (S ++ [o]).set S.length o' = S ++ [o'] := by simp
theorem nabs10 : Int.natAbs 10 = 10 := rfl
theorem szle {n : Nat} (h : n ≤ 16777216) : (n ≤ sizeLine) = True := eq_true (Nat.le_trans h (by decide))
theorem szlt {n : Nat} (h : n < 16777216) : (n < sizeLine) = True := eq_true (Nat.lt_of_lt_of_le h (by decide))
theorem startE_eq {n : Nat} {ds : List D} : startE n ds = ds.map some ++ List.replicate (n - ds.length) none := rfl
theorem wipe_nil {ρ : SH.Env} : wipeE ρ [] = ρ := rfl
theorem wipe_cons {ρ : SH.Env} {v : Nat} {vs : List Nat} : wipeE ρ (v :: vs) = (wipeE ρ vs).set v none := rfl
theorem get_snoc2 {o o' : Ob} : (S ++ [o] ++ [o'])[S.length]? = some o := by simp
theorem eq_of {x y : D} {p q : PyData} {neg : Bool} (hx : py S deep x = some p) (hy : py S deep y = some q) (sp : SeqAt.shaped p = true) (sq : SeqAt.shaped q = true) : eqD neg x y S = .ok (.bl (if neg = true then !PyData.eqv p q else PyData.eqv p q)) S := by
  unfold eqD gd
  rw [hx, hy]
  simp only [sp, sq, and_self, if_true]
theorem shaped_int {i : Int} : SeqAt.shaped (.int i) = true := by unfold SeqAt.shaped; simp [PyData.canLay0, PyData.depth]
theorem shaped_bool {b : Bool} : SeqAt.shaped (.bool b) = true := by unfold SeqAt.shaped; simp [PyData.canLay0, PyData.depth]
theorem shaped_none : SeqAt.shaped .none = true := by unfold SeqAt.shaped; simp [PyData.canLay0, PyData.depth]
theorem eq_int {i j : Int} : eqD false (.int i) (.int j) S = .ok (.bl (decide (i = j))) S := by
  rw [eq_of (p := .int i) (q := .int j) rfl rfl shaped_int shaped_int]; simp [PyData.eqv]; rfl
theorem ne_int {i j : Int} : eqD true (.int i) (.int j) S = .ok (.bl (decide (i ≠ j))) S := by
  rw [eq_of (p := .int i) (q := .int j) rfl rfl shaped_int shaped_int]; simp [PyData.eqv]; rfl
theorem eq_bl {i j : Bool} : eqD false (.bl i) (.bl j) S = .ok (.bl (decide (i = j))) S := by
  rw [eq_of (p := .bool i) (q := .bool j) rfl rfl shaped_bool shaped_bool]; cases i <;> cases j <;> rfl
theorem ne_bl {i j : Bool} : eqD true (.bl i) (.bl j) S = .ok (.bl (decide (i ≠ j))) S := by
  rw [eq_of (p := .bool i) (q := .bool j) rfl rfl shaped_bool shaped_bool]; cases i <;> cases j <;> rfl
theorem eq_non_int {i : Int} : eqD false .non (.int i) S = .ok (.bl false) S := by
  rw [eq_of (p := .none) (q := .int i) rfl rfl shaped_none shaped_int]; simp [PyData.eqv]
theorem ne_non_int {i : Int} : eqD true .non (.int i) S = .ok (.bl true) S := by
  rw [eq_of (p := .none) (q := .int i) rfl rfl shaped_none shaped_int]; simp [PyData.eqv]
theorem eq_int_non {i : Int} : eqD false (.int i) .non S = .ok (.bl false) S := by
  rw [eq_of (p := .int i) (q := .none) rfl rfl shaped_int shaped_none]; simp [PyData.eqv]
theorem ne_int_non {i : Int} : eqD true (.int i) .non S = .ok (.bl true) S := by
  rw [eq_of (p := .int i) (q := .none) rfl rfl shaped_int shaped_none]; simp [PyData.eqv]
theorem eq_non : eqD false .non .non S = .ok (.bl true) S := by
  rw [eq_of (p := .none) (q := .none) rfl rfl shaped_none shaped_none]; simp [PyData.eqv]
theorem ne_non : eqD true .non .non S = .ok (.bl false) S := by
  rw [eq_of (p := .none) (q := .none) rfl rfl shaped_none shaped_none]; simp [PyData.eqv]
theorem mapO_map {α β γ : Type} {f : β → Option γ} {g : α → β} {k : α → γ} : ∀ {l : List α}, (∀ a ∈ l, f (g a) = some (k a)) → mapO f (l.map g) = some (l.map k)
  | [], _ => rfl
  | a :: l, h => by simp only [List.map_cons, mapO, h a (by simp), mapO_map (l := l) fun b hb => h b (by simp [hb])]
theorem lay_all {α : Type} {k : α → PyData} : ∀ {xs : List α}, (∀ a ∈ xs, (k a).canLay0 = true) → PyData.canLayAll0 (xs.map k) = true
  | [], _ => by simp [PyData.canLayAll0]
  | a :: xs, h => by simp [PyData.canLayAll0, h a (by simp), lay_all (xs := xs) fun b hb => h b (by simp [hb])]
theorem depth_all {α : Type} {k : α → PyData} {n : Nat} : ∀ {xs : List α}, (∀ a ∈ xs, (k a).depth ≤ n) → PyData.depthAll (xs.map k) ≤ n
  | [], _ => by simp [PyData.depthAll]
  | a :: xs, h => by
    have h1 := depth_all (xs := xs) fun b hb => h b (by simp [hb])
    have h2 := h a (by simp)
    simp only [List.map_cons, PyData.depthAll] at h1 ⊢
    omega
theorem eqv_all {α : Type} [DecidableEq α] {k : α → PyData} : ∀ {xs ys : List α}, (∀ a ∈ xs, ∀ b ∈ ys, PyData.eqv (k a) (k b) = decide (a = b)) → PyData.eqvAll (xs.map k) (ys.map k) = decide (xs = ys)
  | [], [], _ => by simp [PyData.eqvAll]
  | [], b :: ys, _ => by simp [PyData.eqvAll]
  | a :: xs, [], _ => by simp [PyData.eqvAll]
  | a :: xs, b :: ys, h => by
    simp only [List.map_cons, PyData.eqvAll, h a (by simp) b (by simp), eqv_all (xs := xs) (ys := ys) fun c hc d hd => h c (by simp [hc]) d (by simp [hd]), List.cons.injEq]
    rw [Bool.decide_and]
def encN (l : List Nat) : D := .tup (l.map fun n => .int (n : Nat))
def pyN (l : List Nat) : PyData := .tuple (l.map fun n => .int (n : Nat))
theorem py_N {l : List Nat} {n : Nat} : py S (n + 2) (encN l) = some (pyN l) := by
  show (mapO (py S (n + 1)) _).map PyData.tuple = _
  rw [mapO_map (f := py S (n + 1)) (g := fun n : Nat => D.int (n : Nat)) (k := fun n => PyData.int (n : Nat)) fun _ _ => rfl]; rfl
theorem lay_N {l : List Nat} : (pyN l).canLay0 = true := by unfold pyN; simp only [PyData.canLay0]; exact lay_all fun _ _ => by simp [PyData.canLay0]
theorem depth_N {l : List Nat} : (pyN l).depth ≤ 2 := by
  unfold pyN; simp only [PyData.depth]
  have := depth_all (k := fun n : Nat => PyData.int (n : Nat)) (n := 1) (xs := l) fun _ _ => by simp [PyData.depth]
  omega
theorem shaped_N {l : List Nat} : SeqAt.shaped (pyN l) = true := by
  unfold SeqAt.shaped
  have := depth_N (l := l)
  simp only [lay_N, Bool.true_and, decide_eq_true_eq]; omega
theorem eqv_N {a b : List Nat} : PyData.eqv (pyN a) (pyN b) = decide (a = b) := by
  unfold pyN; simp only [PyData.eqv]
  exact eqv_all fun a _ b _ => by simp only [PyData.eqv]; rw [Bool.eq_iff_iff]; simp; exact Int.ofNat_inj
theorem eq_N {a b : List Nat} : eqD false (encN a) (encN b) S = .ok (.bl (decide (a = b))) S := by
  rw [eq_of py_N py_N shaped_N shaped_N, eqv_N]; rfl
theorem ne_N {a b : List Nat} : eqD true (encN a) (encN b) S = .ok (.bl (decide (a ≠ b))) S := by
  rw [eq_of py_N py_N shaped_N shaped_N, eqv_N]; simp
def dO : Option Nat → D
  | none => .non
  | some n => .int (n : Nat)
def pO : Option Nat → PyData
  | none => .none
  | some n => .int (n : Nat)
def encH (l : List (Option Nat)) : D := .tup (l.map dO)
def pyH (l : List (Option Nat)) : PyData := .tuple (l.map pO)
theorem py_O {o : Option Nat} {n : Nat} : py S (n + 1) (dO o) = some (pO o) := by cases o <;> rfl
theorem lay_O {o : Option Nat} : (pO o).canLay0 = true := by cases o <;> simp [pO, PyData.canLay0]
theorem depth_O {o : Option Nat} : (pO o).depth ≤ 1 := by cases o <;> simp [pO, PyData.depth]
theorem eqv_O {a b : Option Nat} : PyData.eqv (pO a) (pO b) = decide (a = b) := by
  cases a <;> cases b <;> simp [pO, PyData.eqv]
  rw [Bool.eq_iff_iff]; simp; exact Int.ofNat_inj
theorem shaped_O {o : Option Nat} : SeqAt.shaped (pO o) = true := by
  unfold SeqAt.shaped
  have := depth_O (o := o)
  simp only [lay_O, Bool.true_and, decide_eq_true_eq]; omega
theorem eq_O {a b : Option Nat} : eqD false (dO a) (dO b) S = .ok (.bl (decide (a = b))) S := by
  rw [eq_of py_O py_O shaped_O shaped_O, eqv_O]; rfl
theorem ne_O {a b : Option Nat} : eqD true (dO a) (dO b) S = .ok (.bl (decide (a ≠ b))) S := by
  rw [eq_of py_O py_O shaped_O shaped_O, eqv_O]; simp
theorem py_H {l : List (Option Nat)} {n : Nat} : py S (n + 2) (encH l) = some (pyH l) := by
  show (mapO (py S (n + 1)) _).map PyData.tuple = _
  rw [mapO_map (k := pO) fun _ _ => py_O]; rfl
theorem lay_H {l : List (Option Nat)} : (pyH l).canLay0 = true := by unfold pyH; simp only [PyData.canLay0]; exact lay_all fun _ _ => lay_O
theorem depth_H {l : List (Option Nat)} : (pyH l).depth ≤ 2 := by
  unfold pyH; simp only [PyData.depth]
  have := depth_all (k := pO) (n := 1) (xs := l) fun _ _ => depth_O
  omega
theorem shaped_H {l : List (Option Nat)} : SeqAt.shaped (pyH l) = true := by
  unfold SeqAt.shaped
  have := depth_H (l := l)
  simp only [lay_H, Bool.true_and, decide_eq_true_eq]; omega
theorem eqv_H {a b : List (Option Nat)} : PyData.eqv (pyH a) (pyH b) = decide (a = b) := by
  unfold pyH; simp only [PyData.eqv]
  exact eqv_all fun a _ b _ => eqv_O
theorem eq_H {a b : List (Option Nat)} : eqD false (encH a) (encH b) S = .ok (.bl (decide (a = b))) S := by
  rw [eq_of py_H py_H shaped_H shaped_H, eqv_H]; rfl
theorem ne_H {a b : List (Option Nat)} : eqD true (encH a) (encH b) S = .ok (.bl (decide (a ≠ b))) S := by
  rw [eq_of py_H py_H shaped_H shaped_H, eqv_H]; simp
theorem ex_self : Ex S S = True := eq_true .refl
theorem ex_new {o : Ob} : Ex S (S ++ [o]) = True := eq_true .new
theorem w_addN {a b : List Nat} : Wp (addD (encN a) (encN b) S) Q X = (a.length + b.length ≤ sizeLine ∧ Q (encN (a ++ b)) S) := by
  unfold encN; rw [w_addT, List.map_append]; simp
theorem w_addN1 {a : List Nat} {g : Nat} : Wp (addD (encN a) (.tup [.int (g : Nat)]) S) Q X = (a.length + 1 ≤ sizeLine ∧ Q (encN (a ++ [g])) S) := w_addN (b := [g])
theorem w_addH {a b : List (Option Nat)} : Wp (addD (encH a) (encH b) S) Q X = (a.length + b.length ≤ sizeLine ∧ Q (encH (a ++ b)) S) := by
  unfold encH; rw [w_addT, List.map_append]; simp
theorem py_L {α : Type} {l n : Nat} {f : α → D} {k : α → PyData} {xs : List α} (hl : S[l]? = some (.lst (xs.map f))) (h : ∀ a, py S n (f a) = some (k a)) : py S (n + 1) (.loc l) = some (.list (xs.map k)) := by
  show (match S[l]? with | some (.lst ys) => (mapO (py S n) ys).map PyData.list | _ => none) = _
  rw [hl]
  dsimp only
  rw [mapO_map fun a _ => h a]
  rfl
theorem eq_L {α : Type} [DecidableEq α] {l l' : Nat} {f : α → D} {k : α → PyData} {xs ys : List α} {neg : Bool} (hl : S[l]? = some (.lst (xs.map f))) (hl' : S[l']? = some (.lst (ys.map f))) (h : ∀ a, py S 8 (f a) = some (k a)) (h1 : ∀ a, (k a).depth ≤ 60) (h2 : ∀ a, (k a).canLay0 = true) (h3 : ∀ a b, PyData.eqv (k a) (k b) = decide (a = b)) :
    eqD neg (.loc l) (.loc l') S = .ok (.bl (if neg = true then decide (xs ≠ ys) else decide (xs = ys))) S := by
  have hs : ∀ xs : List α, SeqAt.shaped (.list (xs.map k)) = true := fun xs => by
    unfold SeqAt.shaped
    have := depth_all (k := k) (n := 60) (xs := xs) fun a _ => h1 a
    have e : PyData.depth (.list (xs.map k)) ≤ 64 := by simp only [PyData.depth]; omega
    have e2 : PyData.canLay0 (.list (xs.map k)) = true := by simp only [PyData.canLay0]; exact lay_all fun a _ => h2 a
    simp only [e, e2, Bool.true_and, decide_true]
  rw [eq_of (py_L (n := 8) hl h) (py_L (n := 8) hl' h) (hs xs) (hs ys)]
  simp only [PyData.eqv, eqv_all fun a _ b _ => h3 a b]
  cases neg <;> simp
theorem eq_LI {l l' : Nat} {xs ys : List Nat} {neg : Bool} (hl : S[l]? = some (.lst (xs.map fun n => .int (n : Nat)))) (hl' : S[l']? = some (.lst (ys.map fun n => .int (n : Nat)))) : eqD neg (.loc l) (.loc l') S = .ok (.bl (if neg = true then decide (xs ≠ ys) else decide (xs = ys))) S :=
  eq_L (k := fun n => PyData.int (n : Nat)) hl hl' (fun _ => rfl) (fun _ => by simp [PyData.depth]) (fun _ => by simp [PyData.canLay0]) fun a b => by simp only [PyData.eqv]; rw [Bool.eq_iff_iff]; simp; exact Int.ofNat_inj
theorem len_N {l : List Nat} : lenD [encN l] S = .ok (.int (l.length : Nat)) S := by
  show R.ok (D.int ((l.map fun n => D.int (n : Nat)).length : Nat)) S = _
  rw [List.length_map]
theorem ix_N {l : List Nat} {k : Nat} (h : k < l.length) : ixD (encN l) (.int (k : Nat)) S = .ok (.int ((l.getD k 0 : Nat) : Int)) S := by
  show (match atI (l.map fun n => D.int (n : Nat)) ((k : Nat) : Int) with | some d => R.ok d S | none => .bad) = _
  rw [atI_nat (d := .int ((l.getD k 0 : Nat) : Int)) (by rw [List.getElem?_map, List.getElem?_eq_getElem h]; simp [List.getD, List.getElem?_eq_getElem h])]
theorem w_truE {l : List Nat} {QB : Bool → Store → Prop} : Wp (SX.truD (encN l) S) QB X = QB (!l.isEmpty) S := by
  unfold encN; rw [w_truT]; cases l <;> rfl
theorem isi_N_t {l : List Nat} : isiD [encN l, .ty "tuple"] S = .ok (.bl true) S := rfl
theorem isi_N_i {l : List Nat} : isiD [encN l, .ty "int"] S = .ok (.bl false) S := rfl
theorem isi_N_l {l : List Nat} : isiD [encN l, .ty "list"] S = .ok (.bl false) S := rfl
theorem src_N {l : List Nat} {Q : Src → Prop} : srcT (srcD S (encN l)) Q = Q ⟨l.map fun n => .int (n : Nat), fun _ => True⟩ := rfl
theorem len_H {l : List (Option Nat)} : lenD [encH l] S = .ok (.int (l.length : Nat)) S := by
  show R.ok (D.int ((l.map dO).length : Nat)) S = _
  rw [List.length_map]
theorem isi_H_t {l : List (Option Nat)} : isiD [encH l, .ty "tuple"] S = .ok (.bl true) S := rfl
theorem src_H {l : List (Option Nat)} {Q : Src → Prop} : srcT (srcD S (encH l)) Q = Q ⟨l.map dO, fun _ => True⟩ := rfl
theorem rng_nat {a b : Nat} : (rngS (a : Nat) (b : Nat)).items = (List.range' a (b - a)).map fun n => .int (n : Nat) := by
  show (List.range _).map _ = _
  rw [show (((b : Nat) : Int) - ((a : Nat) : Int)).toNat = b - a by omega, List.range'_eq_map_range, List.map_map]
  exact List.map_congr_left fun k _ => by simp only [Function.comp]; rw [show ((a : Nat) : Int) + (k : Nat) = ((a + k : Nat) : Int) by omega]
theorem rng_ok {a b : Int} {S : Store} : (rngS a b).ok S := trivial
end
end SW
set_option Elab.async false
set_option linter.all false
set_option maxRecDepth 100000
set_option maxHeartbeats 4000000
namespace SW
open PySem L2 SH
def RD0 := And.intro @w_bind (And.intro @w_ite (And.intro @w_ok (And.intro @w_exc (And.intro @w_gd (And.intro @w_eV (And.intro @atV_some (And.intro @w_eC (And.intro @w_e1 (And.intro @w_e2 (And.intro @w_aN (And.intro @w_aC (And.intro @w_eA (And.intro @w_mTup (And.intro @w_mLst (And.intro @w_asB (And.intro @w_eAnd (And.intro @w_eOr (And.intro @w_eNot (And.intro @w_eIf (And.intro @w_bV (And.intro @w_bAnd (And.intro @w_bOr (And.intro @w_bNot (And.intro @w_bYes (And.intro @w_eCh (And.intro @onNx_nx (And.intro @onNx_rt (And.intro @onNx_bk (And.intro @onNx_ct (And.intro @w_sNil (And.intro @w_sEx (And.intro @w_sRet (And.intro @w_sRetN (And.intro @w_sIf (And.intro @w_sAsg (And.intro @w_tgN (And.intro @w_tgs0 (And.intro @w_tgs1 (And.intro @w_tgT (And.intro @w_sPar (And.intro @w_parK (And.intro @onRt_nx (And.intro @onRt_rt (And.intro @w_runF (And.intro @w_sFor (And.intro @w_eLc (And.intro @w_eLc2 (And.intro @w_eTupG (And.intro @w_eAllG (And.intro @srcT_tup (And.intro @srcT_con (And.intro @srcT_some (And.intro @w_iV (And.intro @w_iR1 (And.intro @w_iR2 (And.intro @w_iR1K (And.intro @w_iR2K (And.intro @w_iZp (And.intro @w_iZpK (And.intro @w_iEn (And.intro @w_iEnK (And.intro @w_eSl (And.intro @w_pN (And.intro @w_pS (And.intro @w_pSK (And.intro @w_slT (And.intro @w_slC (And.intro @w_sSub (And.intro @w_eM (And.intro @w_addI (And.intro @w_subD (And.intro @w_mulD (And.intro @w_divD (And.intro @w_modD (And.intro @w_powD (And.intro @w_ltI (And.intro @w_leD (And.intro @w_gtD (And.intro @w_geD (And.intro @w_maxD (And.intro @w_minD (And.intro @w_lenT (And.intro @w_lenC (And.intro @atT_some (And.intro @w_isB (And.intro @w_ixT (And.intro @w_ixC (And.intro @lstT_some (And.intro @w_raise (And.intro @w_raiseF (And.intro @w_fs0 (And.intro @w_fs1 (And.intro @intT_int (And.intro @w_eRef (And.intro @onLp_nx (And.intro @onLp_ct (And.intro @onLp_bk (And.intro @onLp_rt (And.intro @w_ixLk (And.intro @w_lenLk (And.intro @w_slLk (And.intro @w_addLk (And.intro @w_mulLk (And.intro @w_appLk (And.intro @srcT_lk (And.intro @lstT_lk (And.intro @lk_some (And.intro @lk2_lst (And.intro @lk2_dct (And.intro @w_setLk (And.intro @ixT_some (And.intro @w_addN (And.intro @w_addN1 (And.intro @w_addH (And.intro @w_bT (And.intro @w_truB (And.intro @w_truN (And.intro @w_truI (And.intro @w_truT (And.intro @w_truLk (And.intro @w_truE (And.intro @w_eIs (And.intro @exT_ext (@exT_non))))))))))))))))))))))))))))))))))))))))))))))))))))))))))))))))))))))))))))))))))))))))))))))))))))))))))))))))))))))))))))
def RD := And.intro @w_sSeq RD0
def RU := And.intro @errD_some (And.intro @errD_none (And.intro @isNX_ext (And.intro @isNX_non (And.intro @ex_self (And.intro @ex_new (And.intro @isN_int (And.intro @isN_bl (And.intro @isN_str (And.intro @isN_tup (And.intro @isN_loc (And.intro @isN_non (And.intro @eq_int (And.intro @ne_int (And.intro @eq_bl (And.intro @ne_bl (And.intro @eq_non (And.intro @ne_non (And.intro @eq_non_int (And.intro @ne_non_int (And.intro @eq_int_non (And.intro @ne_int_non (And.intro @eq_N (And.intro @ne_N (And.intro @eq_H (And.intro @ne_H (And.intro @eq_O (And.intro @ne_O (And.intro @len_N (And.intro @len_H (And.intro @isi_N_t (And.intro @isi_N_i (And.intro @isi_N_l (And.intro @isi_H_t (And.intro @src_N (And.intro @src_H (And.intro @rng_ok (And.intro @at0 (And.intro @at1 (And.intro @at2 (And.intro @get_snoc (And.intro @set_snoc (And.intro @get_snoc2 (And.intro @nabs10 (And.intro @szle (And.intro @szlt (And.intro @ixN_0 (And.intro @ixN_1 (And.intro @isi_int_int (And.intro @isi_int_bool (And.intro @isi_int_tuple (And.intro @isi_int_list (And.intro @isi_bl_int (And.intro @isi_bl_bool (And.intro @isi_bl_tuple (And.intro @isi_bl_list (And.intro @isi_non_int (And.intro @isi_non_bool (And.intro @isi_non_tuple (And.intro @isi_non_list (And.intro @isi_str_int (And.intro @isi_str_bool (And.intro @isi_str_tuple (And.intro @isi_str_list (And.intro @isi_tup_int (And.intro @isi_tup_bool (And.intro @isi_tup_tuple (@isi_tup_list)))))))))))))))))))))))))))))))))))))))))))))))))))))))))))))))))))
def RP := And.intro @if_true.{1} (And.intro @if_false.{1} (And.intro @ne_eq.{1} (And.intro @eq_self.{1} (And.intro @not_true_eq_false (And.intro @List.map_cons.{0,0} (And.intro @List.map_nil.{0,0} (And.intro @List.length_cons.{0} (And.intro @List.length_nil.{0} (And.intro @List.replicate_succ.{0} (And.intro @List.replicate_zero.{0} (And.intro @List.cons_append.{0} (And.intro @List.nil_append.{0} (And.intro @List.getElem?_cons_zero.{0} (And.intro @List.getElem?_cons_succ.{0} (And.intro @List.set_cons_zero.{0} (And.intro @List.set_cons_succ.{0} (And.intro @Nat.zero_le (And.intro @true_and (And.intro @and_true (And.intro @and_self (And.intro @or_true (And.intro @true_or (And.intro @or_false (And.intro @false_or (And.intro @not_true_eq_false (And.intro @not_false_eq_true (And.intro @true_implies (And.intro @false_implies (And.intro @implies_true.{1} (And.intro @Bool.true_eq_false (And.intro @Bool.false_eq_true (And.intro @Bool.not_true (And.intro @Bool.not_false (And.intro @decide_eq_true_eq (And.intro @decide_eq_false_iff_not (And.intro @Bool.not_eq_true (And.intro @Bool.not_eq_false (And.intro @Bool.not_eq_eq_eq_not (And.intro @startE_eq (And.intro @wipe_nil (And.intro @wipe_cons (@implies_true.{0}))))))))))))))))))))))))))))))))))))))))))
end SW
set_option Elab.async false
set_option linter.all false
set_option maxRecDepth 100000
set_option maxHeartbeats 400000
namespace SW
open PySem L2 SH
section
variable {S : Store} {X : Nat → Store → Prop} {Q : D → Store → Prop}
def St (l : Nat) (S : Store) : Prop := ∃ x y : Int, S[l]? = some (.lst [.int x, .int y]) ∧ 0 ≤ x ∧ 0 ≤ y ∧ y < 2147483647
def Kp (l : Nat) (S S' : Store) : Prop := S.length ≤ S'.length ∧ ∀ j, j < S.length → j ≠ l → S'[j]? = S[j]?
theorem Kp.refl {l : Nat} : Kp l S S := ⟨Nat.le_refl _, fun _ _ _ => rfl⟩
theorem Kp.trans {l : Nat} {S1 S2 : Store} (a : Kp l S S1) (b : Kp l S1 S2) : Kp l S S2 := ⟨Nat.le_trans a.1 b.1, fun j h n => (b.2 j (Nat.lt_of_lt_of_le h a.1) n).trans (a.2 j h n)⟩
theorem Kp.set {l : Nat} {o : Ob} : Kp l S (S.set l o) := ⟨by simp, fun j _ n => List.getElem?_set_ne (Ne.symm n)⟩
theorem Kp.ex {l : Nat} {S' : Store} (x : Ex S S') : Kp l S S' := by
  obtain ⟨g, rfl⟩ := x
  exact ⟨by simp, fun j h _ => List.getElem?_append_left h⟩
theorem Kp.get {l j : Nat} {o : Ob} {S' : Store} (x : Kp l S S') (h : S[j]? = some o) (n : j ≠ l) : S'[j]? = some o := by
  rw [x.2 j (List.getElem?_eq_some_iff.mp h).1 n]; exact h
theorem St.ex {l : Nat} {S' : Store} (x : Ex S S') (h : St l S) : St l S' := by
  obtain ⟨a, b, e, r⟩ := h
  exact ⟨a, b, x.get e, r⟩
theorem St.lt {l : Nat} (hs : St l S) : l < S.length := by
  obtain ⟨x, y, e, _⟩ := hs
  exact (List.getElem?_eq_some_iff.mp e).1
theorem sz : 1000000 ≤ sizeLine := by decide
theorem rng_0 {j : Int} : (rngS 0 j).items = (List.range' 0 j.toNat).map fun n => .int (n : Nat) := by
  show (List.range _).map _ = _
  rw [Int.sub_zero, List.range'_eq_map_range, List.map_map]
  exact List.map_congr_left fun k _ => by simp [Function.comp]
theorem br {p q A B : Prop} (h1 : p → A) (h2 : q → B) : (p → A) ∧ (q → B) := ⟨h1, h2⟩
def ruS (k : Bool) : Str := if k = true then "any" else "unlike"
theorem eq_any {k : Bool} : eqD false (.str (ruS k)) (.str "any") S = .ok (.bl k) S := by
  have e : SeqAt.shaped (.str (ruS k)) = true := by cases k <;> decide +kernel
  rw [eq_of (p := .str (ruS k)) (q := .str "any") rfl rfl e (by decide +kernel)]
  cases k <;> simp [PyData.eqv, ruS]
  decide +kernel
theorem eq_str {a b : Str} (ha : SeqAt.shaped (.str a) = true) (hb : SeqAt.shaped (.str b) = true) {neg : Bool} : eqD neg (.str a) (.str b) S = .ok (.bl (if neg = true then decide (a ≠ b) else decide (a = b))) S := by
  rw [eq_of (p := .str a) (q := .str b) rfl rfl ha hb]
  cases neg <;> simp [PyData.eqv] <;> rfl
def okD (S : Store) (d : D) : Prop := (kdD S d).isSome = true
theorem okD.ex {S' : Store} {d : D} (x : Ex S S') (h : okD S d) : okD S' d := by
  cases d <;> try exact h
  rename_i l
  unfold okD kdD at h ⊢
  cases e : S[l]? with
  | none => simp [e] at h
  | some o => simp only [x.get e]; simp only [e] at h; exact h
def isIn (a b : Int) : D → Bool
  | .int i => decide (a ≤ i ∧ i ≤ b)
  | _ => false
end
end SW
set_option Elab.async false
set_option linter.all false
set_option maxRecDepth 100000
set_option maxHeartbeats 400000
namespace SW
open PySem L2 SH
section
variable {S : Store} {X : Nat → Store → Prop} {Q : D → Store → Prop}
theorem w_cutP {m m' : SH.Env → M Fl} {ρ : SH.Env} {QF : Fl → Store → Prop} (P : SH.Env → Store → Prop) (h : Wp (m ρ S) (fun f S' => ∃ ρ1, f = .nx ρ1 ∧ P ρ1 S') X) (k : ∀ ρ1 S1, P ρ1 S1 → Wp (m' ρ1 S1) QF X) : Wp (sSeq m m' ρ S) QF X := by
  rw [w_sSeq]
  exact h.imp fun f S' ⟨ρ1, e1, e2⟩ => by subst e1; exact k _ _ e2
theorem mul_rep {x n : Nat} (hn : n ≤ 1000) : mulD (encN [x]) (.int (n : Nat)) S = .ok (encN (List.replicate n x)) S := by
  refine Wp.pure ?_
  unfold encN
  rw [w_mulT]
  refine ⟨⟨by omega, by omega, by simp; exact Nat.le_trans hn (by decide)⟩, ?_, rfl⟩
  rw [Int.toNat_natCast, List.map_replicate]
  congr 1
  clear hn
  induction n with
  | zero => rfl
  | succ n ih => rw [List.replicate_succ, List.flatten_cons, ih, List.replicate_succ]; rfl
theorem cut_take {xs : List D} {k : Nat} : cutD xs none (some ((k : Nat) : Int)) = xs.take k := by
  unfold cutD
  rw [HT.sIx_none, HT.sIx_nat, List.drop_zero, Nat.sub_zero, List.take_eq_take_min (i := k)]
theorem cut_drop {xs : List D} {k : Nat} : cutD xs (some ((k : Nat) : Int)) none = xs.drop k := by
  unfold cutD
  rw [HT.sIx_none, HT.sIx_nat]
  by_cases h : k ≤ xs.length
  · rw [Nat.min_eq_left h, List.take_of_length_le (by simp)]
  · rw [Nat.min_eq_right (by omega), List.drop_length, List.take_nil, List.drop_of_length_le (by omega)]
theorem sl_take {l : List Nat} {k : Nat} : slD (encN l) none (some ((k : Nat) : Int)) S = .ok (encN (l.take k)) S := by
  show R.ok (D.tup (cutD (l.map fun n => D.int (n : Nat)) none (some ((k : Nat) : Int)))) S = _
  rw [cut_take, ← List.map_take]; rfl
theorem sl_drop {l : List Nat} {k : Nat} : slD (encN l) (some ((k : Nat) : Int)) none S = .ok (encN (l.drop k)) S := by
  show R.ok (D.tup (cutD (l.map fun n => D.int (n : Nat)) (some ((k : Nat) : Int)) none)) S = _
  rw [cut_drop, ← List.map_drop]; rfl
end
end SW
set_option Elab.async false
set_option linter.all false
set_option maxRecDepth 100000
set_option maxHeartbeats 400000
namespace SW
open PySem L2 SH
section
variable {S : Store} {X : Nat → Store → Prop} {QF : Fl → Store → Prop} {ρ : SH.Env} {as : SH.Env → M (List D)}
theorem w_sPar3 {i j k : Nat} : Wp (sPar3 i j k as ρ S) QF X = Wp (as ρ S) (fun ds S1 => Wp (parK3 i j k ρ ds S1) QF X) X := w_bind
theorem w_parK3 {i j k : Nat} {x y z : D} : Wp (parK3 i j k ρ [x, y, z] S) QF X = QF (.nx (((ρ.set i (some x)).set j (some y)).set k (some z))) S := Wp_def
end
end SW
set_option Elab.async false
set_option linter.all false
set_option maxRecDepth 100000
set_option maxHeartbeats 400000
namespace SP
open PySem L2 SH SK SW
section
variable {S : Store} {X : Nat → Store → Prop} {Q : D → Store → Prop}
theorem w_cell {ns : List Int} {k : Nat} (h : ∀ z : Int, Q (.int z) S) : Wp (fm_x_law_cell_at [.con (ns.map D.int), .int (k : Nat)] S) Q X := by
  unfold fm_x_law_cell_at m_x_law_cell_at
  (try simp -dsimp only [↓SW.RD, SW.RU, SW.RP, Nat.reduceAdd, Nat.reduceSub, Nat.reduceLT, Nat.reduceLeDiff, Nat.reduceBEq, Int.reduceLT, Int.reduceLE, Int.reduceNeg, Int.reducePow, Int.reduceToNat, Nat.reducePow, Int.reduceMul, Int.reduceAdd, Int.reduceSub, Int.reduceEq, reduceCtorEq, List.length_map, Int.ofNat_lt])
  refine ⟨fun hk => ?_, fun _ => h 0⟩
  rw [atI_nat (d := .int (ns[k])) (by simp [hk]), atT_some]
  exact h _
theorem w_state {ns : List Int} {k : Nat} (h : ∀ S', St S.length S' → Ex S S' → S'.length = S.length + 1 → Q (.loc S.length) S') : Wp (fm_x_law_state [.con (ns.map D.int), .int (k : Nat)] S) Q X := by
  unfold fm_x_law_state m_x_law_state
  (try simp -dsimp only [↓SW.RD, SW.RU, SW.RP, Nat.reduceAdd, Nat.reduceSub, Nat.reduceLT, Nat.reduceLeDiff, Nat.reduceBEq, Int.reduceLT, Int.reduceLE, Int.reduceNeg, Int.reducePow, Int.reduceToNat, Nat.reducePow, Int.reduceMul, Int.reduceAdd, Int.reduceSub, Int.reduceEq, reduceCtorEq])
  refine w_cell fun z => ?_
  (try simp -dsimp only [↓SW.RD, SW.RU, SW.RP, Nat.reduceAdd, Nat.reduceSub, Nat.reduceLT, Nat.reduceLeDiff, Nat.reduceBEq, Int.reduceLT, Int.reduceLE, Int.reduceNeg, Int.reducePow, Int.reduceToNat, Nat.reducePow, Int.reduceMul, Int.reduceAdd, Int.reduceSub, Int.reduceEq, reduceCtorEq])
  have := sz
  refine h _ ⟨_, _, get_snoc _ _, ?_, ?_, ?_⟩ .new (by simp)
  · split <;> omega
  · exact Int.emod_nonneg _ (by decide)
  · exact Int.emod_lt_of_pos _ (by decide)
theorem w_take {l : Nat} {m : Int} (hs : St l S) (h0 : 0 < m) (h1 : m < 1073741824) (k : ∀ (r : Nat) S', (r : Int) < m → St l S' → Kp l S S' → Q (.int (r : Nat)) S') : Wp (fm_x_law_take [.loc l, .int m] S) Q X := by
  obtain ⟨x, y, e, hx, hy, hy2⟩ := hs
  have hl : l < S.length := (List.getElem?_eq_some_iff.mp e).1
  have k' : ∀ (r : Int) S', 0 ≤ r → r < m → St l S' → Kp l S S' → Q (.int r) S' := fun r S' a b c d => by
    have := k r.toNat S' (by omega) c d
    rwa [show ((r.toNat : Nat) : Int) = r by omega] at this
  unfold fm_x_law_take m_x_law_take
  (try simp -dsimp only [↓SW.RD, SW.RU, SW.RP, Nat.reduceAdd, Nat.reduceSub, Nat.reduceLT, Nat.reduceLeDiff, Nat.reduceBEq, Int.reduceLT, Int.reduceLE, Int.reduceNeg, Int.reducePow, Int.reduceToNat, Nat.reducePow, Int.reduceMul, Int.reduceAdd, Int.reduceSub, Int.reduceEq, reduceCtorEq, e])
  refine ⟨fun hp => ?_, fun hp => ?_⟩
  · exact ⟨h0, ⟨h0, h1⟩, k' _ _ (Int.emod_nonneg _ (by omega)) (Int.emod_lt_of_pos _ h0) ⟨_, _, List.getElem?_set_self hl, Int.ediv_nonneg hx (by omega), hy, hy2⟩ .set⟩
  · (try simp -dsimp only [↓SW.RD, SW.RU, SW.RP, Nat.reduceAdd, Nat.reduceSub, Nat.reduceLT, Nat.reduceLeDiff, Nat.reduceBEq, Int.reduceLT, Int.reduceLE, Int.reduceNeg, Int.reducePow, Int.reduceToNat, Nat.reducePow, Int.reduceMul, Int.reduceAdd, Int.reduceSub, Int.reduceEq, reduceCtorEq, e])
    generalize hy1' : (y * 48271 + 29) % 2147483647 = y1
    have hy1 : 0 ≤ y1 ∧ y1 < 2147483647 := by subst hy1'; exact ⟨Int.emod_nonneg _ (by decide), Int.emod_lt_of_pos _ (by decide)⟩
    have e1 : (S.set l (.lst [.int x, .int y1]))[l]? = some (.lst [.int x, .int y1]) := List.getElem?_set_self hl
    (try simp -dsimp only [↓SW.RD, SW.RU, SW.RP, Nat.reduceAdd, Nat.reduceSub, Nat.reduceLT, Nat.reduceLeDiff, Nat.reduceBEq, Int.reduceLT, Int.reduceLE, Int.reduceNeg, Int.reducePow, Int.reduceToNat, Nat.reducePow, Int.reduceMul, Int.reduceAdd, Int.reduceSub, Int.reduceEq, reduceCtorEq, e1])
    have hz := Int.emod_lt_of_pos (y1 * y1 + 39373 * y1 + 7) (show (0 : Int) < 2147483629 by decide)
    have hz' := Int.emod_nonneg (y1 * y1 + 39373 * y1 + 7) (show (2147483629 : Int) ≠ 0 by decide)
    exact ⟨by omega, by omega, h0, k' _ _ (Int.emod_nonneg _ (by omega)) (Int.emod_lt_of_pos _ h0) ⟨x, y1, e1, hx, hy1.1, hy1.2⟩ .set⟩
theorem w_pick {l : Nat} {ds : List D} {m : Int} (hs : St l S) (hm : m = ds.length) (hn : 0 < ds.length) (hn2 : ds.length ≤ 1000) (k : ∀ d ∈ ds, ∀ S', St l S' → Kp l S S' → Q d S') :
    Wp (fm_x_law_take [.loc l, .int m] (S ++ [.lst ds])) (fun y S2 => Wp (ixD (.loc S.length) y S2) Q X) X := by
  have hl := hs.lt
  refine w_take (hs.ex .new) (by omega) (by omega) fun r S' hr hs' kp => ?_
  have hg : S'[S.length]? = some (.lst ds) := kp.get (get_snoc _ _) (by omega)
  have hr' : r < ds.length := by omega
  rw [w_ixL hg, atI_nat (d := ds[r]) (List.getElem?_eq_getElem hr'), atT_some]
  exact k _ (List.getElem_mem hr') S' hs' ((Kp.ex .new).trans kp)
def fitsB (any : Bool) (row : List Nat) (g : Nat) : Bool :=
  !(List.range' 1 row.length).any fun a => (decide (a < row.length + 1 - a) || any && decide (2 * a = row.length + 1)) && decide (row.getD (a - 1) 0 = g) && decide (row.getD (row.length - a) 0 = g)
theorem w_fits {row : List Nat} {g : Nat} {any : Bool} (hl : row.length ≤ 40) (h : Q (.bl (fitsB any row g)) S) : Wp (fm_x_law_fits [encN row, .int (g : Nat), .str (ruS any)] S) Q X := by
  let T : Nat → Bool := fun a => (decide (a < row.length + 1 - a) || any && decide (2 * a = row.length + 1)) && decide (row.getD (a - 1) 0 = g) && decide (row.getD (row.length - a) 0 = g)
  unfold fm_x_law_fits m_x_law_fits
  (try simp -dsimp only [↓SW.RD, SW.RU, SW.RP, Nat.reduceAdd, Nat.reduceSub, Nat.reduceLT, Nat.reduceLeDiff, Nat.reduceBEq, Int.reduceLT, Int.reduceLE, Int.reduceNeg, Int.reducePow, Int.reduceToNat, Nat.reducePow, Int.reduceMul, Int.reduceAdd, Int.reduceSub, Int.reduceEq, reduceCtorEq])
  refine ⟨by omega, ?_⟩
  refine w_for (xs := List.range' 1 row.length) (f := fun n => .int (n : Nat)) (fun pre ρ S' => S' = S ∧ (∃ o, ρ = [some (encN row), some (.int (g : Nat)), some (.str (ruS any)), some (.int ((row.length : Nat) + 1)), o]) ∧ ∀ a ∈ pre, T a = false) (rng_nat (a := 1) (b := row.length + 1)) ⟨rfl, ⟨none, rfl⟩, by simp⟩ ?_ ?_
  · rintro pre a post e _ S' ⟨rfl, ⟨o, rfl⟩, hp⟩
    have ha : 1 ≤ a ∧ a ≤ row.length := by
      have : a ∈ List.range' 1 row.length := by rw [e]; simp
      simp at this; omega
    refine ⟨trivial, ?_⟩
    have i1 : ∀ S', ixD (encN row) (.int ((a : Nat) - 1 : Int)) S' = .ok (.int ((row.getD (a - 1) 0 : Nat) : Int)) S' := fun S' => by
      rw [show ((a : Nat) : Int) - 1 = ((a - 1 : Nat) : Int) by omega]; exact ix_N (by omega)
    have i2 : ∀ S', ixD (encN row) (.int ((row.length : Nat) + 1 - (a : Nat) - 1 : Int)) S' = .ok (.int ((row.getD (row.length - a) 0 : Nat) : Int)) S' := fun S' => by
      rw [show ((row.length : Nat) : Int) + 1 - ((a : Nat) : Int) - 1 = ((row.length - a : Nat) : Int) by omega]; exact ix_N (by omega)
    have go : ∀ b : Bool, b = T a → (b = true → Q (.bl false) S') ∧ (b = false → ∀ x ∈ pre ++ [a], T x = false) := fun b hb => by
      refine ⟨fun h1 => ?_, fun h1 x hx => ?_⟩
      · have : fitsB any row g = false := by
          unfold fitsB
          simp only [Bool.not_eq_false']
          rw [List.any_eq_true]
          exact ⟨a, by rw [e]; simp, hb.symm.trans h1⟩
        rwa [this] at h
      · rcases List.mem_append.mp hx with h2 | h2
        · exact hp x h2
        · simp at h2; subst h2; exact hb ▸ h1
    (try simp -dsimp only [↓SW.RD, SW.RU, SW.RP, Nat.reduceAdd, Nat.reduceSub, Nat.reduceLT, Nat.reduceLeDiff, Nat.reduceBEq, Int.reduceLT, Int.reduceLE, Int.reduceNeg, Int.reducePow, Int.reduceToNat, Nat.reducePow, Int.reduceMul, Int.reduceAdd, Int.reduceSub, Int.reduceEq, reduceCtorEq, i1, i2, eq_any, Int.ofNat_inj])
    repeat' (apply SW.br <;> intro _)
    all_goals first
      | (refine (go true ?_).1 rfl; clear go hp i1 i2 h; simp_all [T] <;> (intros; omega))
      | (refine ⟨⟨_, rfl⟩, (go false ?_).2 rfl⟩; clear go hp i1 i2 h; simp_all [T] <;> (intros; omega))
  · rintro _ S' ⟨rfl, ⟨o, rfl⟩, hp⟩
    refine ⟨trivial, ?_⟩
    have : fitsB any row g = true := by
      unfold fitsB
      rw [Bool.not_eq_true', List.any_eq_false]
      exact fun x hx => by have := hp x hx; simpa [T] using this
    (try simp -dsimp only [↓SW.RD, SW.RU, SW.RP, Nat.reduceAdd, Nat.reduceSub, Nat.reduceLT, Nat.reduceLeDiff, Nat.reduceBEq, Int.reduceLT, Int.reduceLE, Int.reduceNeg, Int.reducePow, Int.reduceToNat, Nat.reducePow, Int.reduceMul, Int.reduceAdd, Int.reduceSub, Int.reduceEq, reduceCtorEq])
    rwa [this] at h
end
end SP
set_option Elab.async false
set_option linter.all false
set_option maxRecDepth 100000
set_option maxHeartbeats 400000
namespace SP
open PySem L2 SH SK SW
section
variable {S : Store} {X : Nat → Store → Prop} {Q : D → Store → Prop}
def wordS : List Str := ["hues", "row", "rule", "number", "hue", "lot", "step", "paper", "clean", "many", "text", "line", "deed"]
def kinds (c : Nat) : List Bool := [c == 0, c == 1, c == 2, c == 3, c == 4, c == 8, c == 9, c == 5, c == 6, c == 7, c == 10, c == 11, c == 12]
theorem kinds_one : ∀ c, c < 13 → (kinds c).countP (· == true) = 1 ∧ ∃ j, (kinds c).findIdx? (· == true) = some j ∧ (["hues", "row", "rule", "number", "hue", "clean", "many", "lot", "step", "paper", "text", "line", "deed"] : List Str)[j]? = some (wordS.getD c "") := by
  intro c hc
  match c, hc with
  | 0, _ | 1, _ | 2, _ | 3, _ | 4, _ | 5, _ | 6, _ | 7, _ | 8, _ | 9, _ | 10, _ | 11, _ | 12, _ => exact ⟨by decide, _, rfl, rfl⟩
theorem w_word {c : Nat} (hc : c < 13) (k : ∀ S', Ex S S' → Q (.str (wordS.getD c "")) S') : Wp (SX.wordF 5 1 m_x_law_word (some c) S) Q X := by
  have hz := sz
  unfold m_x_law_word
  obtain ⟨c1, c2⟩ := kinds_one c hc
  obtain ⟨j, hj, hw⟩ := c2
  (try simp -dsimp only [↓SW.RD, SW.RU, SW.RP, Nat.reduceAdd, Nat.reduceSub, Nat.reduceLT, Nat.reduceLeDiff, Nat.reduceBEq, Int.reduceLT, Int.reduceLE, Int.reduceNeg, Int.reducePow, Int.reduceToNat, Nat.reducePow, Int.reduceMul, Int.reduceAdd, Int.reduceSub, Int.reduceEq, reduceCtorEq, w_wordF, hc])
  refine Eq.mpr (w_cnt (bs := kinds c) (b := true) (get_snoc _ _)) ?_
  (try simp -dsimp only [↓SW.RD, SW.RU, SW.RP, Nat.reduceAdd, Nat.reduceSub, Nat.reduceLT, Nat.reduceLeDiff, Nat.reduceBEq, Int.reduceLT, Int.reduceLE, Int.reduceNeg, Int.reducePow, Int.reduceToNat, Nat.reducePow, Int.reduceMul, Int.reduceAdd, Int.reduceSub, Int.reduceEq, reduceCtorEq, hc, c1])
  refine ⟨fun h => absurd rfl h, fun _ => ?_⟩
  refine Eq.mpr (w_ixb (bs := kinds c) (b := true) (get_snoc2) hj) ?_
  (try simp -dsimp only [↓SW.RD, SW.RU, SW.RP, Nat.reduceAdd, Nat.reduceSub, Nat.reduceLT, Nat.reduceLeDiff, Nat.reduceBEq, Int.reduceLT, Int.reduceLE, Int.reduceNeg, Int.reducePow, Int.reduceToNat, Nat.reducePow, Int.reduceMul, Int.reduceAdd, Int.reduceSub, Int.reduceEq, reduceCtorEq])
  refine Eq.mpr (congrArg (fun o => atT o _) (atI_nat (d := .str (wordS.getD c "")) ?_)) ?_
  · have := congrArg (Option.map D.str) hw
    rw [← List.getElem?_map] at this
    exact this
  · exact k _ (Ex.new.snoc.snoc.snoc.snoc.snoc.snoc.snoc)
end
end SP
set_option Elab.async false
set_option linter.all false
set_option maxRecDepth 100000
set_option maxHeartbeats 400000
namespace SP
open PySem L2 SH SK SW
section
variable {S : Store} {X : Nat → Store → Prop} {Q : D → Store → Prop}
theorem loc_some {l : Nat} (h : okD S (.loc l)) : (kdD S (.loc l)).isSome = true := h
def isZ : D → Bool
  | .int _ => true
  | _ => false
theorem whole_eq {d : D} (hd : okD S d) : fm_x_is_whole [d] S = .ok (.bl (isZ d)) S := by
  refine Wp.pure ?_
  unfold fm_x_is_whole m_x_is_whole
  cases d with
  | ext k => cases hd
  | ty k => cases hd
  | loc l =>
    (try simp -dsimp only [↓SW.RD, SW.RU, SW.RP, Nat.reduceAdd, Nat.reduceSub, Nat.reduceLT, Nat.reduceLeDiff, Nat.reduceBEq, Int.reduceLT, Int.reduceLE, Int.reduceNeg, Int.reducePow, Int.reduceToNat, Nat.reducePow, Int.reduceMul, Int.reduceAdd, Int.reduceSub, Int.reduceEq, reduceCtorEq, isi_loc (n := "int") (k := .int) rfl rfl rfl (loc_some hd), isZ])
  | con xs => (try simp -dsimp only [↓SW.RD, SW.RU, SW.RP, Nat.reduceAdd, Nat.reduceSub, Nat.reduceLT, Nat.reduceLeDiff, Nat.reduceBEq, Int.reduceLT, Int.reduceLE, Int.reduceNeg, Int.reducePow, Int.reduceToNat, Nat.reducePow, Int.reduceMul, Int.reduceAdd, Int.reduceSub, Int.reduceEq, reduceCtorEq, isi_con_int, isZ])
  | _ => (try simp -dsimp only [↓SW.RD, SW.RU, SW.RP, Nat.reduceAdd, Nat.reduceSub, Nat.reduceLT, Nat.reduceLeDiff, Nat.reduceBEq, Int.reduceLT, Int.reduceLE, Int.reduceNeg, Int.reducePow, Int.reduceToNat, Nat.reducePow, Int.reduceMul, Int.reduceAdd, Int.reduceSub, Int.reduceEq, reduceCtorEq, isZ])
theorem within_eq {d : D} {a b : Int} (hd : okD S d) : fm_x_is_within [d, .int a, .int b] S = .ok (.bl (isIn a b d)) S := by
  refine Wp.pure ?_
  unfold fm_x_is_within m_x_is_within
  (try simp -dsimp only [↓SW.RD, SW.RU, SW.RP, Nat.reduceAdd, Nat.reduceSub, Nat.reduceLT, Nat.reduceLeDiff, Nat.reduceBEq, Int.reduceLT, Int.reduceLE, Int.reduceNeg, Int.reducePow, Int.reduceToNat, Nat.reducePow, Int.reduceMul, Int.reduceAdd, Int.reduceSub, Int.reduceEq, reduceCtorEq, whole_eq hd])
  cases d <;> simp only [isZ, isIn] <;> (try simp -dsimp only [↓SW.RD, SW.RU, SW.RP, Nat.reduceAdd, Nat.reduceSub, Nat.reduceLT, Nat.reduceLeDiff, Nat.reduceBEq, Int.reduceLT, Int.reduceLE, Int.reduceNeg, Int.reducePow, Int.reduceToNat, Nat.reducePow, Int.reduceMul, Int.reduceAdd, Int.reduceSub, Int.reduceEq, reduceCtorEq])
  rename_i i
  by_cases h : a ≤ i <;> simp [h]
theorem okD_int {i : Int} : okD S (.int i) := rfl
end
end SP
set_option Elab.async false
set_option linter.all false
set_option maxRecDepth 100000
set_option maxHeartbeats 400000
namespace SP
open PySem L2 SH SK SW
section
variable {S : Store} {X : Nat → Store → Prop} {Q : D → Store → Prop}
theorem hue_eq {d : D} {h : Int} (hd : okD S d) : fm_x_is_hue [.int h, d] S = .ok (.bl (isIn 0 (h - 1) d)) S := by
  refine Wp.pure ?_
  unfold fm_x_is_hue m_x_is_hue
  (try simp -dsimp only [↓SW.RD, SW.RU, SW.RP, Nat.reduceAdd, Nat.reduceSub, Nat.reduceLT, Nat.reduceLeDiff, Nat.reduceBEq, Int.reduceLT, Int.reduceLE, Int.reduceNeg, Int.reducePow, Int.reduceToNat, Nat.reducePow, Int.reduceMul, Int.reduceAdd, Int.reduceSub, Int.reduceEq, reduceCtorEq, within_eq hd])
def partB (h : Int) : D → Bool
  | .non => true
  | d => isIn 0 (h - 1) d
def halfB (h : Int) : D → Bool
  | .tup xs => decide (xs.length ≤ 30) && xs.all (partB h)
  | _ => false
def okT (S : Store) (d : D) : Prop := okD S d ∧ ∀ xs, d = .tup xs → ∀ x ∈ xs, okD S x
theorem isN_ok {d : D} (hd : okD S d) {neg : Bool} (hn : d ≠ .non) : isD neg d .non S = .ok (.bl neg) S := by
  cases d <;> first | (cases hd; done) | exact absurd rfl hn | (cases neg <;> rfl)
theorem half_eq {d : D} {h : Int} (hd : okT S d) : fm_x_is_half_row [.int h, d] S = .ok (.bl (halfB h d)) S := by
  refine Wp.pure ?_
  unfold fm_x_is_half_row m_x_is_half_row
  cases d with
  | ext k => cases hd.1
  | ty k => cases hd.1
  | loc l => (try simp -dsimp only [↓SW.RD, SW.RU, SW.RP, Nat.reduceAdd, Nat.reduceSub, Nat.reduceLT, Nat.reduceLeDiff, Nat.reduceBEq, Int.reduceLT, Int.reduceLE, Int.reduceNeg, Int.reducePow, Int.reduceToNat, Nat.reducePow, Int.reduceMul, Int.reduceAdd, Int.reduceSub, Int.reduceEq, reduceCtorEq, isi_loc (n := "tuple") (k := .tup) rfl rfl rfl (loc_some hd.1), halfB])
  | con xs => (try simp -dsimp only [↓SW.RD, SW.RU, SW.RP, Nat.reduceAdd, Nat.reduceSub, Nat.reduceLT, Nat.reduceLeDiff, Nat.reduceBEq, Int.reduceLT, Int.reduceLE, Int.reduceNeg, Int.reducePow, Int.reduceToNat, Nat.reducePow, Int.reduceMul, Int.reduceAdd, Int.reduceSub, Int.reduceEq, reduceCtorEq, isi_con_tuple, halfB])
  | tup xs =>
    (try simp -dsimp only [↓SW.RD, SW.RU, SW.RP, Nat.reduceAdd, Nat.reduceSub, Nat.reduceLT, Nat.reduceLeDiff, Nat.reduceBEq, Int.reduceLT, Int.reduceLE, Int.reduceNeg, Int.reducePow, Int.reduceToNat, Nat.reducePow, Int.reduceMul, Int.reduceAdd, Int.reduceSub, Int.reduceEq, reduceCtorEq, cd_MOST_NUMBERS])
    refine ⟨fun h' => ?_, fun h' => ?_⟩
    · simp only [halfB]; rw [decide_eq_false (by omega)]; rfl
    · refine w_allP (xs := xs) (f := fun d => d) (partB h) (by simp) trivial (fun x hx => ?_) ?_
      · have hx' := hd.2 xs rfl x hx
        by_cases hn : x = .non
        · subst hn; (try simp -dsimp only [↓SW.RD, SW.RU, SW.RP, Nat.reduceAdd, Nat.reduceSub, Nat.reduceLT, Nat.reduceLeDiff, Nat.reduceBEq, Int.reduceLT, Int.reduceLE, Int.reduceNeg, Int.reducePow, Int.reduceToNat, Nat.reducePow, Int.reduceMul, Int.reduceAdd, Int.reduceSub, Int.reduceEq, reduceCtorEq, partB])
        · have e : partB h x = isIn 0 (h - 1) x := by cases x <;> first | rfl | exact absurd rfl hn
          (try simp -dsimp only [↓SW.RD, SW.RU, SW.RP, Nat.reduceAdd, Nat.reduceSub, Nat.reduceLT, Nat.reduceLeDiff, Nat.reduceBEq, Int.reduceLT, Int.reduceLE, Int.reduceNeg, Int.reducePow, Int.reduceToNat, Nat.reducePow, Int.reduceMul, Int.reduceAdd, Int.reduceSub, Int.reduceEq, reduceCtorEq, isN_ok hx' hn, hue_eq hx', e])
      · simp only [halfB]
        rw [decide_eq_true (by omega : xs.length ≤ 30)]
        exact ⟨by simp, rfl⟩
  | _ => (try simp -dsimp only [↓SW.RD, SW.RU, SW.RP, Nat.reduceAdd, Nat.reduceSub, Nat.reduceLT, Nat.reduceLeDiff, Nat.reduceBEq, Int.reduceLT, Int.reduceLE, Int.reduceNeg, Int.reducePow, Int.reduceToNat, Nat.reducePow, Int.reduceMul, Int.reduceAdd, Int.reduceSub, Int.reduceEq, reduceCtorEq, halfB])
theorem half_enc {d : D} {h : Int} (hb : halfB h d = true) : ∃ l : List (Option Nat), d = encH l ∧ l.length ≤ 30 ∧ ∀ n, some n ∈ l → (n : Int) < h := by
  cases d <;> try cases hb
  rename_i xs
  simp only [halfB] at hb
  rw [Bool.and_eq_true, decide_eq_true_eq, List.all_eq_true] at hb
  refine ⟨xs.map fun d => match d with | .int i => some i.toNat | _ => none, ?_, by simpa using hb.1, ?_⟩
  · unfold encH
    rw [List.map_map]
    congr 1
    conv => lhs; rw [← List.map_id xs]
    refine List.map_congr_left fun d hd => ?_
    have := hb.2 d hd
    cases d <;> first | rfl | (unfold partB isIn at this; first | (cases this; done) | skip)
    rename_i i
    simp at this
    simp only [Function.comp, dO, id]
    rw [show ((i.toNat : Nat) : Int) = i by omega]
  · intro n hn
    obtain ⟨d, hd, e⟩ := List.mem_map.mp hn
    have := hb.2 d hd
    cases d <;> try cases e
    unfold partB isIn at this
    simp at this
    omega
theorem in_H {l : List (Option Nat)} : inD true .non (encH l) S = .ok (.bl (decide (none ∉ l))) S := by
  unfold inD
  rw [py_H]
  show inP true (l.map pO) .none S = _
  unfold inP gd
  rw [if_pos ⟨lay_all (fun x _ => lay_O), by decide +kernel⟩]
  have : ((l.map pO).any fun q => PyData.eqv q .none) = decide (none ∈ l) := by
    rw [Bool.eq_iff_iff, List.any_eq_true, decide_eq_true_eq]
    constructor
    · rintro ⟨q, hq, e⟩
      obtain ⟨o, ho, rfl⟩ := List.mem_map.mp hq
      rw [show PyData.none = pO none from rfl, eqv_O, decide_eq_true_eq] at e
      exact e ▸ ho
    · intro h
      exact ⟨pO none, List.mem_map.mpr ⟨none, h, rfl⟩, by rw [show PyData.none = pO none from rfl, eqv_O]; simp⟩
  rw [this]
  simp
def rowB (h : Int) : D → Bool
  | .tup xs => decide (xs.length ≤ 30) && xs.all (isIn 0 (h - 1))
  | _ => false
theorem half_row {l : List (Option Nat)} {h : Int} (hl : l.length ≤ 30) (hn : ∀ n, some n ∈ l → (n : Int) < h) : rowB h (encH l) = decide (none ∉ l) := by
  unfold encH
  simp only [rowB]
  rw [List.length_map, decide_eq_true hl, Bool.true_and, Bool.eq_iff_iff, List.all_eq_true, decide_eq_true_eq]
  constructor
  · intro hh hn'
    have := hh .non (List.mem_map.mpr ⟨none, hn', rfl⟩)
    cases this
  · intro hh d hd
    obtain ⟨o, ho, rfl⟩ := List.mem_map.mp hd
    cases o with
    | none => exact absurd ho hh
    | some n => have := hn n ho; simp [dO, isIn]; omega
theorem row_half {d : D} {h : Int} (hb : halfB h d = false) : rowB h d = false := by
  cases d <;> try rfl
  rename_i xs
  simp only [halfB] at hb
  simp only [rowB]
  by_cases hl : xs.length ≤ 30
  · rw [decide_eq_true hl, Bool.true_and] at hb ⊢
    cases e : xs.all (isIn 0 (h - 1)) with
    | false => rfl
    | true =>
      rw [List.all_eq_true] at e
      have : xs.all (partB h) = true := List.all_eq_true.mpr fun x hx => by
        have := e x hx
        cases x <;> first | (cases this; done) | exact this
      rw [this] at hb; cases hb
  · rw [decide_eq_false hl]; rfl
theorem full_eq {d : D} {h : Int} (hd : okT S d) : fm_x_is_full_row [.int h, d] S = .ok (.bl (rowB h d)) S := by
  refine Wp.pure ?_
  unfold fm_x_is_full_row m_x_is_full_row
  (try simp -dsimp only [↓SW.RD, SW.RU, SW.RP, Nat.reduceAdd, Nat.reduceSub, Nat.reduceLT, Nat.reduceLeDiff, Nat.reduceBEq, Int.reduceLT, Int.reduceLE, Int.reduceNeg, Int.reducePow, Int.reduceToNat, Nat.reducePow, Int.reduceMul, Int.reduceAdd, Int.reduceSub, Int.reduceEq, reduceCtorEq, half_eq hd])
  refine SW.br (fun hb => ?_) fun hb => ?_
  · obtain ⟨l, rfl, hl, hn⟩ := half_enc hb
    (try simp -dsimp only [↓SW.RD, SW.RU, SW.RP, Nat.reduceAdd, Nat.reduceSub, Nat.reduceLT, Nat.reduceLeDiff, Nat.reduceBEq, Int.reduceLT, Int.reduceLE, Int.reduceNeg, Int.reducePow, Int.reduceToNat, Nat.reducePow, Int.reduceMul, Int.reduceAdd, Int.reduceSub, Int.reduceEq, reduceCtorEq, in_H, half_row hl hn])
  · (try simp -dsimp only [↓SW.RD, SW.RU, SW.RP, Nat.reduceAdd, Nat.reduceSub, Nat.reduceLT, Nat.reduceLeDiff, Nat.reduceBEq, Int.reduceLT, Int.reduceLE, Int.reduceNeg, Int.reducePow, Int.reduceToNat, Nat.reducePow, Int.reduceMul, Int.reduceAdd, Int.reduceSub, Int.reduceEq, reduceCtorEq, row_half hb])
theorem check_hues_eq {d : D} (hd : okD S d) : fm_x_check_hues [d] S = if isIn 1 3 d = true then .ok .non S else .exc 0 S := by
  split
  · refine Wp.pure ?_
    unfold fm_x_check_hues m_x_check_hues
    (try simp -dsimp only [↓SW.RD, SW.RU, SW.RP, Nat.reduceAdd, Nat.reduceSub, Nat.reduceLT, Nat.reduceLeDiff, Nat.reduceBEq, Int.reduceLT, Int.reduceLE, Int.reduceNeg, Int.reducePow, Int.reduceToNat, Nat.reducePow, Int.reduceMul, Int.reduceAdd, Int.reduceSub, Int.reduceEq, reduceCtorEq, within_eq hd, cd_MOST_HUES, *])
  · refine Wp.rais ?_
    unfold fm_x_check_hues m_x_check_hues
    (try simp -dsimp only [↓SW.RD, SW.RU, SW.RP, Nat.reduceAdd, Nat.reduceSub, Nat.reduceLT, Nat.reduceLeDiff, Nat.reduceBEq, Int.reduceLT, Int.reduceLE, Int.reduceNeg, Int.reducePow, Int.reduceToNat, Nat.reducePow, Int.reduceMul, Int.reduceAdd, Int.reduceSub, Int.reduceEq, reduceCtorEq, within_eq hd, cd_MOST_HUES, *])
theorem check_row_eq {d : D} {h : Int} (hd : okT S d) : fm_x_check_row [.int h, d] S = if rowB h d = true then .ok .non S else .exc 1 S := by
  split
  · refine Wp.pure ?_
    unfold fm_x_check_row m_x_check_row
    (try simp -dsimp only [↓SW.RD, SW.RU, SW.RP, Nat.reduceAdd, Nat.reduceSub, Nat.reduceLT, Nat.reduceLeDiff, Nat.reduceBEq, Int.reduceLT, Int.reduceLE, Int.reduceNeg, Int.reducePow, Int.reduceToNat, Nat.reducePow, Int.reduceMul, Int.reduceAdd, Int.reduceSub, Int.reduceEq, reduceCtorEq, full_eq hd, *])
  · refine Wp.rais ?_
    unfold fm_x_check_row m_x_check_row
    (try simp -dsimp only [↓SW.RD, SW.RU, SW.RP, Nat.reduceAdd, Nat.reduceSub, Nat.reduceLT, Nat.reduceLeDiff, Nat.reduceBEq, Int.reduceLT, Int.reduceLE, Int.reduceNeg, Int.reducePow, Int.reduceToNat, Nat.reducePow, Int.reduceMul, Int.reduceAdd, Int.reduceSub, Int.reduceEq, reduceCtorEq, full_eq hd, *])
theorem okD_N {l : List Nat} : okT S (encN l) := ⟨rfl, fun xs e x hx => by
  unfold encN at e; cases e
  obtain ⟨n, _, rfl⟩ := List.mem_map.mp hx
  rfl⟩
def ROk (h : Nat) (row : List Nat) : Prop := row.length ≤ 30 ∧ ∀ x ∈ row, x < h
theorem rowB_N {h : Nat} {row : List Nat} (hr : ROk h row) : rowB (h : Int) (encN row) = true := by
  unfold encN
  simp only [rowB]
  rw [List.length_map, decide_eq_true hr.1, Bool.true_and, List.all_eq_true]
  intro d hd
  obtain ⟨n, hn, rfl⟩ := List.mem_map.mp hd
  have := hr.2 n hn
  simp [isIn]; omega
theorem hues_in {h : Nat} (h1 : 1 ≤ h) (h2 : h ≤ 3) : isIn 1 3 (.int (h : Nat)) = true := by simp [isIn]; omega
theorem check_hues_ok {h : Nat} (h1 : 1 ≤ h) (h2 : h ≤ 3) : fm_x_check_hues [.int (h : Nat)] S = .ok .non S := by rw [check_hues_eq okD_int, if_pos (hues_in h1 h2)]
theorem check_row_ok {h : Nat} {row : List Nat} (hr : ROk h row) : fm_x_check_row [.int (h : Nat), encN row] S = .ok .non S := by rw [check_row_eq okD_N, if_pos (rowB_N hr)]
end
end SP
set_option Elab.async false
set_option linter.all false
set_option maxRecDepth 100000
set_option maxHeartbeats 400000
namespace SP
open PySem L2 SH SK SW
section
variable {S : Store} {X : Nat → Store → Prop} {Q : D → Store → Prop}
theorem w_row {l h : Nat} {m : Nat} (hs : St l S) (h1 : 1 ≤ h) (h2 : h ≤ 3) (hm : m ≤ 31) (k : ∀ (row : List Nat) S', row.length = m → (∀ x ∈ row, x < h) → St l S' → Kp l S S' → Q (encN row) S') : Wp (fm_x_law_row [.loc l, .int (h : Nat), .int (m : Nat)] S) Q X := by
  have hz := sz
  unfold fm_x_law_row m_x_law_row
  (try simp -dsimp only [↓SW.RD, SW.RU, SW.RP, Nat.reduceAdd, Nat.reduceSub, Nat.reduceLT, Nat.reduceLeDiff, Nat.reduceBEq, Int.reduceLT, Int.reduceLE, Int.reduceNeg, Int.reducePow, Int.reduceToNat, Nat.reducePow, Int.reduceMul, Int.reduceAdd, Int.reduceSub, Int.reduceEq, reduceCtorEq])
  refine w_take hs (by decide) (by decide) fun w S1 hw hs1 kp1 => ?_
  (try simp -dsimp only [↓SW.RD, SW.RU, SW.RP, Nat.reduceAdd, Nat.reduceSub, Nat.reduceLT, Nat.reduceLeDiff, Nat.reduceBEq, Int.reduceLT, Int.reduceLE, Int.reduceNeg, Int.reducePow, Int.reduceToNat, Nat.reducePow, Int.reduceMul, Int.reduceAdd, Int.reduceSub, Int.reduceEq, reduceCtorEq])
  refine w_pick hs1 (by rfl) (by simp) (by simp) fun ru hru S2 hs2 kp2 => ?_
  have hru' : ∃ k : Bool, ru = .str (ruS k) := by
    simp at hru
    rcases hru with rfl | rfl
    · exact ⟨true, by simp [ruS]⟩
    · exact ⟨false, by simp [ruS]⟩
  refine hru'.elim fun any he => ?_
  clear hru'
  rw [he]
  clear he hru
  (try simp -dsimp only [↓SW.RD, SW.RU, SW.RP, Nat.reduceAdd, Nat.reduceSub, Nat.reduceLT, Nat.reduceLeDiff, Nat.reduceBEq, Int.reduceLT, Int.reduceLE, Int.reduceNeg, Int.reducePow, Int.reduceToNat, Nat.reducePow, Int.reduceMul, Int.reduceAdd, Int.reduceSub, Int.reduceEq, reduceCtorEq])
  refine ⟨by omega, ?_⟩
  refine w_for (xs := List.range' 0 m) (f := fun n => .int (n : Nat)) (fun pre ρ S' => ∃ row, row.length = pre.length ∧ (∀ x ∈ row, x < h) ∧ St l S' ∧ Kp l S S' ∧ ∃ a4 a7 a8 a9 a10, ρ = [some (.loc l), some (.int (h : Nat)), some (.int (m : Nat)), some (encN row), a4, some (.int (w : Nat)), some (.str (ruS any)), a7, a8, a9, a10]) (rng_nat (a := 0) (b := m)) ⟨[], rfl, by simp, hs2, kp1.trans kp2, _, _, _, _, _, rfl⟩ ?_ ?_
  · rintro pre a post e _ S3 ⟨row, e1, e2, hs3, kp3, a4, a7, a8, a9, a10, rfl⟩
    have hlen : pre.length < m := by
      have := congrArg List.length e
      simp at this; omega
    refine ⟨trivial, ?_⟩
    (try simp -dsimp only [↓SW.RD, SW.RU, SW.RP, Nat.reduceAdd, Nat.reduceSub, Nat.reduceLT, Nat.reduceLeDiff, Nat.reduceBEq, Int.reduceLT, Int.reduceLE, Int.reduceNeg, Int.reducePow, Int.reduceToNat, Nat.reducePow, Int.reduceMul, Int.reduceAdd, Int.reduceSub, Int.reduceEq, reduceCtorEq])
    refine w_take hs3 (by omega) (by omega) fun g S4 hg hs4 kp4 => ?_
    (try simp -dsimp only [↓SW.RD, SW.RU, SW.RP, Nat.reduceAdd, Nat.reduceSub, Nat.reduceLT, Nat.reduceLeDiff, Nat.reduceBEq, Int.reduceLT, Int.reduceLE, Int.reduceNeg, Int.reducePow, Int.reduceToNat, Nat.reducePow, Int.reduceMul, Int.reduceAdd, Int.reduceSub, Int.reduceEq, reduceCtorEq])
    refine ⟨by omega, ?_⟩
    refine w_lcA (xs := List.range' 0 h) (f := fun n => .int (n : Nat)) (fun j => .int (((g + j) % h : Nat) : Int)) (rng_nat (a := 0) (b := h)) (fun _ _ => trivial) (by simp; omega) (fun j _ S5 x5 => ?_) fun S5 x5 => ?_
    · (try simp -dsimp only [↓SW.RD, SW.RU, SW.RP, Nat.reduceAdd, Nat.reduceSub, Nat.reduceLT, Nat.reduceLeDiff, Nat.reduceBEq, Int.reduceLT, Int.reduceLE, Int.reduceNeg, Int.reducePow, Int.reduceToNat, Nat.reducePow, Int.reduceMul, Int.reduceAdd, Int.reduceSub, Int.reduceEq, reduceCtorEq])
      exact ⟨by omega, by simp⟩
    · (try simp -dsimp only [↓SW.RD, SW.RU, SW.RP, Nat.reduceAdd, Nat.reduceSub, Nat.reduceLT, Nat.reduceLeDiff, Nat.reduceBEq, Int.reduceLT, Int.reduceLE, Int.reduceNeg, Int.reducePow, Int.reduceToNat, Nat.reducePow, Int.reduceMul, Int.reduceAdd, Int.reduceSub, Int.reduceEq, reduceCtorEq])
      have nx : ∀ (g' : Nat) (a8 : Option D) S', g' < h → Ex S5 S' → ∃ row', row'.length = (pre ++ [a]).length ∧ (∀ x ∈ row', x < h) ∧ St l S' ∧ Kp l S S' ∧ ∃ a4 a7 a8' a9' a10', [some (D.loc l), some (.int (h : Nat)), some (.int (m : Nat)), some (encN (row ++ [g'])), some (.int (a : Nat)), some (.int (w : Nat)), some (.str (ruS any)), some (.int (g : Nat)), a8, a9, a10] = [some (.loc l), some (.int (h : Nat)), some (.int (m : Nat)), some (encN row'), a4, some (.int (w : Nat)), some (.str (ruS any)), a7, a8', a9', a10'] := fun g' a8 S' hg' x => by
        refine ⟨row ++ [g'], by simp [e1], fun y hy => ?_, hs4.ex (x5.trans x), (kp3.trans kp4).trans (.ex (x5.trans x)), _, _, _, _, _, rfl⟩
        rcases List.mem_append.mp hy with h3 | h3
        · exact e2 y h3
        · simp at h3; omega
      refine SW.br (fun h' => ?_) fun h' => ?_
      · refine w_lcF (xs := List.range' 0 h) (fun j => fitsB any row ((g + j) % h)) (fun j => .int (((g + j) % h : Nat) : Int)) rfl (fun S' x => x.get (get_snoc _ _)) (by simp; omega) (fun j _ S6 x6 => ?_) fun S6 x6 => ?_
        · (try simp -dsimp only [↓SW.RD, SW.RU, SW.RP, Nat.reduceAdd, Nat.reduceSub, Nat.reduceLT, Nat.reduceLeDiff, Nat.reduceBEq, Int.reduceLT, Int.reduceLE, Int.reduceNeg, Int.reducePow, Int.reduceToNat, Nat.reducePow, Int.reduceMul, Int.reduceAdd, Int.reduceSub, Int.reduceEq, reduceCtorEq])
          refine w_fits (by omega) ?_
          (try simp -dsimp only [↓SW.RD, SW.RU, SW.RP, Nat.reduceAdd, Nat.reduceSub, Nat.reduceLT, Nat.reduceLeDiff, Nat.reduceBEq, Int.reduceLT, Int.reduceLE, Int.reduceNeg, Int.reducePow, Int.reduceToNat, Nat.reducePow, Int.reduceMul, Int.reduceAdd, Int.reduceSub, Int.reduceEq, reduceCtorEq])
        · (try simp -dsimp only [↓SW.RD, SW.RU, SW.RP, Nat.reduceAdd, Nat.reduceSub, Nat.reduceLT, Nat.reduceLeDiff, Nat.reduceBEq, Int.reduceLT, Int.reduceLE, Int.reduceNeg, Int.reducePow, Int.reduceToNat, Nat.reducePow, Int.reduceMul, Int.reduceAdd, Int.reduceSub, Int.reduceEq, reduceCtorEq, List.length_map])
          have hfl : (List.filter (fun j => fitsB any row ((g + j) % h)) (List.range' 0 h)).length ≤ h := Nat.le_trans (List.length_filter_le _ _) (by simp)
          refine ⟨by omega, ?_⟩
          have x7 := Ex.new.trans x6
          generalize List.filter (fun j => fitsB any row ((g + j) % h)) (List.range' 0 h) = ys
          cases ys with
          | nil =>
            (try simp -dsimp only [↓SW.RD, SW.RU, SW.RP, Nat.reduceAdd, Nat.reduceSub, Nat.reduceLT, Nat.reduceLeDiff, Nat.reduceBEq, Int.reduceLT, Int.reduceLE, Int.reduceNeg, Int.reducePow, Int.reduceToNat, Nat.reducePow, Int.reduceMul, Int.reduceAdd, Int.reduceSub, Int.reduceEq, reduceCtorEq])
            exact ⟨by omega, nx _ _ _ (by omega) (x7.snoc.snoc.snoc)⟩
          | cons y ys =>
            (try simp -dsimp only [↓SW.RD, SW.RU, SW.RP, Nat.reduceAdd, Nat.reduceSub, Nat.reduceLT, Nat.reduceLeDiff, Nat.reduceBEq, Int.reduceLT, Int.reduceLE, Int.reduceNeg, Int.reducePow, Int.reduceToNat, Nat.reducePow, Int.reduceMul, Int.reduceAdd, Int.reduceSub, Int.reduceEq, reduceCtorEq])
            exact ⟨by omega, nx _ _ _ (Nat.mod_lt _ (by omega)) (x7.snoc.snoc.snoc)⟩
      · cases h with
        | zero => omega
        | succ h3 =>
          rw [List.range'_succ]
          (try simp -dsimp only [↓SW.RD, SW.RU, SW.RP, Nat.reduceAdd, Nat.reduceSub, Nat.reduceLT, Nat.reduceLeDiff, Nat.reduceBEq, Int.reduceLT, Int.reduceLE, Int.reduceNeg, Int.reducePow, Int.reduceToNat, Nat.reducePow, Int.reduceMul, Int.reduceAdd, Int.reduceSub, Int.reduceEq, reduceCtorEq])
          exact ⟨by omega, nx _ _ _ (Nat.mod_lt _ (by omega)) .new⟩
  · rintro _ S3 ⟨row, e1, e2, hs3, kp3, a4, a7, a8, a9, a10, rfl⟩
    refine ⟨trivial, ?_⟩
    (try simp -dsimp only [↓SW.RD, SW.RU, SW.RP, Nat.reduceAdd, Nat.reduceSub, Nat.reduceLT, Nat.reduceLeDiff, Nat.reduceBEq, Int.reduceLT, Int.reduceLE, Int.reduceNeg, Int.reducePow, Int.reduceToNat, Nat.reducePow, Int.reduceMul, Int.reduceAdd, Int.reduceSub, Int.reduceEq, reduceCtorEq])
    exact k row S3 (by simpa using e1) e2 hs3 kp3
end
end SP
set_option Elab.async false
set_option linter.all false
set_option maxRecDepth 100000
set_option maxHeartbeats 400000
namespace SP
open PySem L2 SH SK SW
section
variable {S : Store} {X : Nat → Store → Prop} {Q : D → Store → Prop}
theorem check_rule_in {d : D} {p : PyData} (hp : py S deep d = some p) (hs : SeqAt.shaped p = true) : fm_x_check_rule [d] S = if (PyData.eqv (.str "any") p || PyData.eqv (.str "unlike") p) = true then .ok .non S else .exc 2 S := by
  have e : inD true d cd_RULES S = .ok (.bl !(PyData.eqv (.str "any") p || PyData.eqv (.str "unlike") p)) S := by
    unfold inD
    rw [show py S deep cd_RULES = some (.tuple [.str "any", .str "unlike"]) from rfl, hp]
    show inP true [.str "any", .str "unlike"] p S = _
    unfold inP gd
    rw [if_pos ⟨by decide +kernel, hs⟩]
    simp
  split
  · rename_i h
    refine Wp.pure ?_
    unfold fm_x_check_rule m_x_check_rule
    (try simp -dsimp only [↓SW.RD, SW.RU, SW.RP, Nat.reduceAdd, Nat.reduceSub, Nat.reduceLT, Nat.reduceLeDiff, Nat.reduceBEq, Int.reduceLT, Int.reduceLE, Int.reduceNeg, Int.reducePow, Int.reduceToNat, Nat.reducePow, Int.reduceMul, Int.reduceAdd, Int.reduceSub, Int.reduceEq, reduceCtorEq, e, h])
  · rename_i h
    refine Wp.rais ?_
    unfold fm_x_check_rule m_x_check_rule
    (try simp -dsimp only [↓SW.RD, SW.RU, SW.RP, Nat.reduceAdd, Nat.reduceSub, Nat.reduceLT, Nat.reduceLeDiff, Nat.reduceBEq, Int.reduceLT, Int.reduceLE, Int.reduceNeg, Int.reducePow, Int.reduceToNat, Nat.reducePow, Int.reduceMul, Int.reduceAdd, Int.reduceSub, Int.reduceEq, reduceCtorEq, e, h])
def sumsL (any : Bool) (n : Nat) : List (List Nat) := (List.range' 1 n).flatMap fun a => (List.range' (a + if any = true then 0 else 1) (n + 1 - a - (a + if any = true then 0 else 1))).map fun b => [a, b, a + b]
end
end SP
set_option Elab.async false
set_option linter.all false
set_option maxRecDepth 100000
set_option maxHeartbeats 1600000
namespace SP
open PySem L2 SH SK SW
section
variable {S : Store} {X : Nat → Store → Prop} {Q : D → Store → Prop}
def noRu (d : D) (S : Store) : Prop := fm_x_check_rule [d] S = .exc 2 S
theorem okD_lst {l : Nat} {xs : List D} (g : S[l]? = some (.lst xs)) : okD S (.loc l) := by
  unfold okD kdD; simp only [g]; rfl
theorem okD_dct {l : Nat} {xs : List (Key × D)} (g : S[l]? = some (.dct xs)) : okD S (.loc l) := by
  unfold okD kdD; simp only [g]; rfl
theorem okT_loc {l : Nat} (h : okD S (.loc l)) : okT S (.loc l) := ⟨h, fun xs e => nomatch e⟩
theorem w_nohues {l : Nat} (hs : St l S) (k : ∀ (d : D) S', (∀ S2, Kp l S' S2 → okD S2 d) → isIn 1 3 d = false → St l S' → Kp l S S' → Q d S') : Wp (fm_x_law_no_hues [.loc l] S) Q X := by
  unfold fm_x_law_no_hues m_x_law_no_hues
  (try simp -dsimp only [↓SW.RD, SW.RU, SW.RP, Nat.reduceAdd, Nat.reduceSub, Nat.reduceLT, Nat.reduceLeDiff, Nat.reduceBEq, Int.reduceLT, Int.reduceLE, Int.reduceNeg, Int.reducePow, Int.reduceToNat, Nat.reducePow, Int.reduceMul, Int.reduceAdd, Int.reduceSub, Int.reduceEq, reduceCtorEq])
  have hlt := hs.lt
  refine w_pick (hs.ex .new) (by rfl) (by simp) (by simp) fun d hd S1 hs1 kp1 => ?_
  have g1 : S1[S.length]? = some (.lst [.int 2]) := kp1.get (get_snoc _ _) (by omega)
  have kp : Kp l S S1 := (Kp.ex .new).trans kp1
  simp at hd
  rcases hd with rfl | rfl | rfl | rfl | rfl | rfl | rfl | rfl | rfl
  all_goals first | exact k _ S1 (fun _ _ => rfl) (by simp [isIn]) hs1 kp | exact k _ S1 (fun S2 kp2 => okD_lst (kp2.get g1 (by omega))) rfl hs1 kp
theorem w_norule {l : Nat} (hs : St l S) (k : ∀ (d : D) S', (∀ S2, Kp l S' S2 → noRu d S2) → St l S' → Kp l S S' → Q d S') : Wp (fm_x_law_no_rule [.loc l] S) Q X := by
  unfold fm_x_law_no_rule m_x_law_no_rule
  (try simp -dsimp only [↓SW.RD, SW.RU, SW.RP, Nat.reduceAdd, Nat.reduceSub, Nat.reduceLT, Nat.reduceLeDiff, Nat.reduceBEq, Int.reduceLT, Int.reduceLE, Int.reduceNeg, Int.reducePow, Int.reduceToNat, Nat.reducePow, Int.reduceMul, Int.reduceAdd, Int.reduceSub, Int.reduceEq, reduceCtorEq])
  have hlt := hs.lt
  refine w_pick (hs.ex .new) (by rfl) (by simp) (by simp) fun d hd S1 hs1 kp1 => ?_
  have g1 : S1[S.length]? = some (.lst [.str "any"]) := kp1.get (get_snoc _ _) (by omega)
  have kp : Kp l S S1 := (Kp.ex .new).trans kp1
  have no1 : ∀ (d : D) (p : PyData) (S2 : Store), py S2 deep d = some p → SeqAt.shaped p = true → (PyData.eqv (.str "any") p || PyData.eqv (.str "unlike") p) = false → noRu d S2 := fun d p S2 e1 e2 e3 => by
    unfold noRu
    rw [check_rule_in e1 e2, if_neg (by rw [e3]; decide)]
  simp at hd
  rcases hd with rfl | rfl | rfl | rfl | rfl | rfl | rfl | rfl | rfl | rfl
  · exact k _ S1 (fun S2 _ => no1 _ .none S2 rfl (by decide +kernel) (by decide +kernel)) hs1 kp
  · exact k _ S1 (fun S2 _ => no1 _ (.str "Any") S2 rfl (by decide +kernel) (by decide +kernel)) hs1 kp
  · exact k _ S1 (fun S2 _ => no1 _ (.str "any ") S2 rfl (by decide +kernel) (by decide +kernel)) hs1 kp
  · exact k _ S1 (fun S2 _ => no1 _ (.str "") S2 rfl (by decide +kernel) (by decide +kernel)) hs1 kp
  · exact k _ S1 (fun S2 _ => no1 _ (.int 0) S2 rfl (by decide +kernel) (by decide +kernel)) hs1 kp
  · exact k _ S1 (fun S2 _ => no1 _ (.bool true) S2 rfl (by decide +kernel) (by decide +kernel)) hs1 kp
  · exact k _ S1 (fun S2 kp2 => no1 _ (.list [.str "any"]) S2 (by
      have g2 : S2[S.length]? = some (.lst (([Str.ofString "any"]).map fun s : Str => D.str s)) := kp2.get g1 (by omega)
      exact py_L (n := 8) (k := fun s : Str => PyData.str s) g2 fun _ => rfl) (by decide +kernel) (by decide +kernel)) hs1 kp
  · exact k _ S1 (fun S2 _ => no1 _ (.tuple [.str "unlike"]) S2 rfl (by decide +kernel) (by decide +kernel)) hs1 kp
  · exact k _ S1 (fun S2 _ => no1 _ (.str "unlikely") S2 rfl (by decide +kernel) (by decide +kernel)) hs1 kp
  · exact k _ S1 (fun S2 _ => no1 _ (.str "like") S2 rfl (by decide +kernel) (by decide +kernel)) hs1 kp
def bentL (L : List Nat) (at' : Nat) (d : D) : D := .tup ((L.take at').map (fun n => .int (n : Nat)) ++ [d] ++ (L.drop (at' + 1)).map fun n => .int (n : Nat))
theorem okT_bent {L : List Nat} {at' : Nat} {d : D} (h : okD S d) : okT S (bentL L at' d) := ⟨rfl, fun xs e x hx => by
  unfold bentL at e; cases e
  rcases List.mem_append.mp hx with hx | hx
  · rcases List.mem_append.mp hx with hx | hx
    · obtain ⟨n, _, rfl⟩ := List.mem_map.mp hx; rfl
    · simp at hx; subst hx; exact h
  · obtain ⟨n, _, rfl⟩ := List.mem_map.mp hx; rfl⟩
theorem bent_no {L : List Nat} {at' : Nat} {d : D} {h : Int} (hd : isIn 0 (h - 1) d = false) : rowB h (bentL L at' d) = false := by
  unfold bentL rowB
  simp [hd]
theorem long_no {h : Int} {n : Nat} (hn : 30 < n) : rowB h (encN (List.replicate n 0)) = false := by
  unfold encN rowB
  simp; omega
def NoRw (l h : Nat) (d : D) (S : Store) : Prop := (∀ S2, Kp l S S2 → okT S2 d) ∧ rowB (h : Int) d = false
theorem w_norow {l h : Nat} (hs : St l S) (h1 : 1 ≤ h) (h2 : h ≤ 3) (k : ∀ (d : D) S', NoRw l h d S' → St l S' → Kp l S S' → Q d S') : Wp (fm_x_law_no_row [.loc l, .int (h : Nat)] S) Q X := by
  have hz := sz
  unfold fm_x_law_no_row m_x_law_no_row
  (try simp -dsimp only [↓SW.RD, SW.RU, SW.RP, Nat.reduceAdd, Nat.reduceSub, Nat.reduceLT, Nat.reduceLeDiff, Nat.reduceBEq, Int.reduceLT, Int.reduceLE, Int.reduceNeg, Int.reducePow, Int.reduceToNat, Nat.reducePow, Int.reduceMul, Int.reduceAdd, Int.reduceSub, Int.reduceEq, reduceCtorEq])
  refine w_take hs (by decide) (by decide) fun m S1 hm hs1 kp1 => ?_
  (try simp -dsimp only [↓SW.RD, SW.RU, SW.RP, Nat.reduceAdd, Nat.reduceSub, Nat.reduceLT, Nat.reduceLeDiff, Nat.reduceBEq, Int.reduceLT, Int.reduceLE, Int.reduceNeg, Int.reducePow, Int.reduceToNat, Nat.reducePow, Int.reduceMul, Int.reduceAdd, Int.reduceSub, Int.reduceEq, reduceCtorEq])
  refine w_row hs1 h1 h2 (by omega) fun L S2 hl hL hs2 kp2 => ?_
  have hlt2 := hs2.lt
  (try simp -dsimp only [↓SW.RD, SW.RU, SW.RP, Nat.reduceAdd, Nat.reduceSub, Nat.reduceLT, Nat.reduceLeDiff, Nat.reduceBEq, Int.reduceLT, Int.reduceLE, Int.reduceNeg, Int.reducePow, Int.reduceToNat, Nat.reducePow, Int.reduceMul, Int.reduceAdd, Int.reduceSub, Int.reduceEq, reduceCtorEq])
  refine w_pick (hs2.ex .new) (by rfl) (by simp) (by simp) fun odd hodd S3 hs3 kp3 => ?_
  have g3 : S3[S2.length]? = some (.lst [.int 0]) := kp3.get (get_snoc _ _) (by omega)
  have hok : (∀ S4, Kp l S3 S4 → okD S4 odd) ∧ isIn 0 ((h : Int) - 1) odd = false := by
    simp at hodd
    rcases hodd with rfl | rfl | rfl | rfl | rfl | rfl | rfl | rfl
    all_goals first | exact ⟨fun _ _ => rfl, by simp [isIn] <;> omega⟩ | exact ⟨fun _ _ => rfl, rfl⟩ | exact ⟨fun S4 kp4 => okD_lst (kp4.get g3 (by omega)), rfl⟩
  (try simp -dsimp only [↓SW.RD, SW.RU, SW.RP, Nat.reduceAdd, Nat.reduceSub, Nat.reduceLT, Nat.reduceLeDiff, Nat.reduceBEq, Int.reduceLT, Int.reduceLE, Int.reduceNeg, Int.reducePow, Int.reduceToNat, Nat.reducePow, Int.reduceMul, Int.reduceAdd, Int.reduceSub, Int.reduceEq, reduceCtorEq])
  refine w_take hs3 (by omega) (by omega) fun at' S4 hat hs4 kp4 => ?_
  have el : ((at' : Nat) : Int) + 1 = ((at' + 1 : Nat) : Int) := by omega
  have ea : ∀ S', addD (encN (L.take at')) (.tup [odd]) S' = .ok (.tup ((L.take at').map (fun n => .int (n : Nat)) ++ [odd])) S' := fun S' => by
    refine Wp.pure ?_
    unfold encN
    rw [w_addT]
    exact ⟨by simp; omega, rfl, rfl⟩
  have eb : ∀ S', addD (.tup ((L.take at').map (fun n => .int (n : Nat)) ++ [odd])) (encN (L.drop (at' + 1))) S' = .ok (bentL L at' odd) S' := fun S' => by
    refine Wp.pure ?_
    unfold encN
    rw [w_addT]
    exact ⟨by simp; omega, rfl, rfl⟩
  have elst : ∀ S', lstD [encN L] S' = .ok (.loc S'.length) (S' ++ [.lst (L.map fun n => .int (n : Nat))]) := fun _ => rfl
  have edn : ∀ ρ S, eDNew ρ S = .ok (.loc S.length) (S ++ [.dct []]) := fun _ _ => rfl
  have emu : ∀ S, mulD (.tup [.int 0]) (.int 31) S = .ok (encN (List.replicate 31 0)) S := fun S => mul_rep (x := 0) (n := 31) (by decide)
  (try simp -dsimp only [↓SW.RD0, SW.RU, SW.RP, Nat.reduceAdd, Nat.reduceSub, Nat.reduceLT, Nat.reduceLeDiff, Nat.reduceBEq, Int.reduceLT, Int.reduceLE, Int.reduceNeg, Int.reducePow, Int.reduceToNat, Nat.reducePow, Int.reduceMul, Int.reduceAdd, Int.reduceSub, Int.reduceEq, reduceCtorEq])
  refine w_cutP (fun ρ1 S5 => ∃ T ds, S5[T]? = some (.lst ds) ∧ T ≠ l ∧ ds.length = 7 ∧ (∀ d ∈ ds, NoRw l h d S5) ∧ St l S5 ∧ Kp l S4 S5 ∧ ρ1 = [some (.loc l), some (.int (h : Nat)), some (encN L), some odd, some (.int (at' : Nat)), some (.loc T)]) ?_ ?_
  · (try simp -dsimp only [↓SW.RD, SW.RU, SW.RP, Nat.reduceAdd, Nat.reduceSub, Nat.reduceLT, Nat.reduceLeDiff, Nat.reduceBEq, Int.reduceLT, Int.reduceLE, Int.reduceNeg, Int.reducePow, Int.reduceToNat, Nat.reducePow, Int.reduceMul, Int.reduceAdd, Int.reduceSub, Int.reduceEq, reduceCtorEq, sl_take, sl_drop, el, ea, eb, elst, edn, emu])
    have hlt4 := hs4.lt
    refine ⟨_, rfl, _, _, get_snoc _ _, by simp; omega, rfl, fun d hd => ?_, hs4.ex Ex.new.snoc.snoc, .ex Ex.new.snoc.snoc, rfl⟩
    have kpx : Kp l S4 (S4 ++ [Ob.lst (List.map (fun n => D.int (n : Nat)) L)] ++ [Ob.dct []] ++ [Ob.lst [bentL L at' odd, .loc S4.length, .non, encN (List.replicate 31 0), .str "abc", .loc (S4 ++ [Ob.lst (List.map (fun n => D.int (n : Nat)) L)]).length, .int 7]]) := .ex Ex.new.snoc.snoc
    simp only [List.mem_cons, List.not_mem_nil, or_false] at hd
    rcases hd with rfl | rfl | rfl | rfl | rfl | rfl | rfl
    · exact ⟨fun S2 kp2 => okT_bent (hok.1 _ ((kp4.trans kpx).trans kp2)), bent_no hok.2⟩
    · exact ⟨fun S2 kp2 => okT_loc (okD_lst (kp2.get (o := .lst (L.map fun n => D.int (n : Nat))) (by simp) (by omega))), rfl⟩
    · exact ⟨fun S2 _ => ⟨rfl, fun xs e => nomatch e⟩, rfl⟩
    · exact ⟨fun S2 _ => okD_N, long_no (n := 31) (by decide)⟩
    · exact ⟨fun S2 _ => ⟨rfl, fun xs e => nomatch e⟩, rfl⟩
    · exact ⟨fun S2 kp2 => okT_loc (okD_dct (kp2.get (o := .dct []) (by simp) (by simp; omega))), rfl⟩
    · exact ⟨fun S2 _ => ⟨rfl, fun xs e => nomatch e⟩, rfl⟩
  rintro _ S5 ⟨T, ds, g5, hT, hd7, hds, hs5, kp5, rfl⟩
  have kp05 : Kp l S S5 := ((((kp1.trans kp2).trans (.ex .new)).trans kp3).trans kp4).trans kp5
  have hlt5 := hs5.lt
  (try simp -dsimp only [↓SW.RD, SW.RU, SW.RP, Nat.reduceAdd, Nat.reduceSub, Nat.reduceLT, Nat.reduceLeDiff, Nat.reduceBEq, Int.reduceLT, Int.reduceLE, Int.reduceNeg, Int.reducePow, Int.reduceToNat, Nat.reducePow, Int.reduceMul, Int.reduceAdd, Int.reduceSub, Int.reduceEq, reduceCtorEq])
  refine w_take hs5 (by decide) (by decide) fun r S6 hr hs6 kp6 => ?_
  (try simp -dsimp only [↓SW.RD, SW.RU, SW.RP, Nat.reduceAdd, Nat.reduceSub, Nat.reduceLT, Nat.reduceLeDiff, Nat.reduceBEq, Int.reduceLT, Int.reduceLE, Int.reduceNeg, Int.reducePow, Int.reduceToNat, Nat.reducePow, Int.reduceMul, Int.reduceAdd, Int.reduceSub, Int.reduceEq, reduceCtorEq])
  refine w_pick hs6 (by rfl) (by simp) (by simp) fun y hy S7 hs7 kp7 => ?_
  have g7 := (kp6.trans kp7).get g5 hT
  obtain ⟨i, rfl, hi⟩ : ∃ i : Nat, y = .int (i : Nat) ∧ i < 7 := by
    simp at hy
    rcases hy with rfl | rfl
    · exact ⟨0, rfl, by decide⟩
    · exact ⟨1 + r, by push_cast; rfl, by omega⟩
  rw [w_ixL g7, atI_nat (d := ds[i]'(by omega)) (List.getElem?_eq_getElem (by omega)), atT_some]
  (try simp -dsimp only [↓SW.RD, SW.RU, SW.RP, Nat.reduceAdd, Nat.reduceSub, Nat.reduceLT, Nat.reduceLeDiff, Nat.reduceBEq, Int.reduceLT, Int.reduceLE, Int.reduceNeg, Int.reducePow, Int.reduceToNat, Nat.reducePow, Int.reduceMul, Int.reduceAdd, Int.reduceSub, Int.reduceEq, reduceCtorEq])
  have kp57 : Kp l S5 S7 := kp6.trans kp7
  obtain ⟨n1, n2⟩ := hds _ (List.getElem_mem (show i < ds.length by omega))
  exact k _ _ ⟨fun S2 kp2 => n1 S2 (kp57.trans kp2), n2⟩ hs7 (kp05.trans kp57)
end
end SP
set_option Elab.async false
set_option linter.all false
set_option maxRecDepth 100000
set_option maxHeartbeats 3200000
namespace SP
open PySem L2 SH SK SW
section
variable {S : Store} {X : Nat → Store → Prop} {Q : D → Store → Prop}
def Rf (a b : D) (c : Nat) (S : Store) : Prop := fm_x_check_hues [a] S = .exc c S ∨ (fm_x_check_hues [a] S = .ok .non S ∧ fm_x_check_row [a, b] S = .exc c S)
theorem of_no {a b : D} {c : Nat} (h : Rf a b c S) : fm_x_check_row_of [a, b] S = .exc c S := by
  refine Wp.rais ?_
  unfold fm_x_check_row_of m_x_check_row_of
  rcases h with h | ⟨h, h'⟩
  · (try simp -dsimp only [↓SW.RD, SW.RU, SW.RP, Nat.reduceAdd, Nat.reduceSub, Nat.reduceLT, Nat.reduceLeDiff, Nat.reduceBEq, Int.reduceLT, Int.reduceLE, Int.reduceNeg, Int.reducePow, Int.reduceToNat, Nat.reducePow, Int.reduceMul, Int.reduceAdd, Int.reduceSub, Int.reduceEq, reduceCtorEq, h])
  · (try simp -dsimp only [↓SW.RD, SW.RU, SW.RP, Nat.reduceAdd, Nat.reduceSub, Nat.reduceLT, Nat.reduceLeDiff, Nat.reduceBEq, Int.reduceLT, Int.reduceLE, Int.reduceNeg, Int.reducePow, Int.reduceToNat, Nat.reducePow, Int.reduceMul, Int.reduceAdd, Int.reduceSub, Int.reduceEq, reduceCtorEq, h, h'])
theorem ru_no {a b d : D} {c : Nat} (h : Rf a b c S) : fm_x_check_ruled_row [a, b, d] S = .exc c S := by
  refine Wp.rais ?_
  unfold fm_x_check_ruled_row m_x_check_ruled_row
  rcases h with h | ⟨h, h'⟩
  · (try simp -dsimp only [↓SW.RD, SW.RU, SW.RP, Nat.reduceAdd, Nat.reduceSub, Nat.reduceLT, Nat.reduceLeDiff, Nat.reduceBEq, Int.reduceLT, Int.reduceLE, Int.reduceNeg, Int.reducePow, Int.reduceToNat, Nat.reducePow, Int.reduceMul, Int.reduceAdd, Int.reduceSub, Int.reduceEq, reduceCtorEq, h])
  · (try simp -dsimp only [↓SW.RD, SW.RU, SW.RP, Nat.reduceAdd, Nat.reduceSub, Nat.reduceLT, Nat.reduceLeDiff, Nat.reduceBEq, Int.reduceLT, Int.reduceLE, Int.reduceNeg, Int.reducePow, Int.reduceToNat, Nat.reducePow, Int.reduceMul, Int.reduceAdd, Int.reduceSub, Int.reduceEq, reduceCtorEq, h, h'])
theorem rc_no {a b d : D} {c : Nat} (h : fm_x_check_ruled_row [a, b, d] S = .exc c S) : fm_x_round_clashes [a, b, d] S = .exc c S := by
  refine Wp.rais ?_
  unfold fm_x_round_clashes m_x_round_clashes
  (try simp -dsimp only [↓SW.RD, SW.RU, SW.RP, Nat.reduceAdd, Nat.reduceSub, Nat.reduceLT, Nat.reduceLeDiff, Nat.reduceBEq, Int.reduceLT, Int.reduceLE, Int.reduceNeg, Int.reducePow, Int.reduceToNat, Nat.reducePow, Int.reduceMul, Int.reduceAdd, Int.reduceSub, Int.reduceEq, reduceCtorEq, h])
theorem ir_no {a b d : D} {c : Nat} (h : fm_x_check_ruled_row [a, b, d] S = .exc c S) : fm_x_is_round [a, b, d] S = .exc c S := by
  refine Wp.rais ?_
  unfold fm_x_is_round m_x_is_round
  (try simp -dsimp only [↓SW.RD, SW.RU, SW.RP, Nat.reduceAdd, Nat.reduceSub, Nat.reduceLT, Nat.reduceLeDiff, Nat.reduceBEq, Int.reduceLT, Int.reduceLE, Int.reduceNeg, Int.reducePow, Int.reduceToNat, Nat.reducePow, Int.reduceMul, Int.reduceAdd, Int.reduceSub, Int.reduceEq, reduceCtorEq, rc_no h])
theorem is_no {a b d : D} {c : Nat} (h : fm_x_check_ruled_row [a, b, d] S = .exc c S) : fm_x_is_settled [a, b, d] S = .exc c S := by
  refine Wp.rais ?_
  unfold fm_x_is_settled m_x_is_settled
  (try simp -dsimp only [↓SW.RD, SW.RU, SW.RP, Nat.reduceAdd, Nat.reduceSub, Nat.reduceLT, Nat.reduceLeDiff, Nat.reduceBEq, Int.reduceLT, Int.reduceLE, Int.reduceNeg, Int.reducePow, Int.reduceToNat, Nat.reducePow, Int.reduceMul, Int.reduceAdd, Int.reduceSub, Int.reduceEq, reduceCtorEq, h])
theorem ld_no {a b d : D} {c : Nat} (h : fm_x_check_ruled_row [a, b, d] S = .exc c S) : fm_x_led_down [a, b, d] S = .exc c S := by
  refine Wp.rais ?_
  unfold fm_x_led_down m_x_led_down
  (try simp -dsimp only [↓SW.RD, SW.RU, SW.RP, Nat.reduceAdd, Nat.reduceSub, Nat.reduceLT, Nat.reduceLeDiff, Nat.reduceBEq, Int.reduceLT, Int.reduceLE, Int.reduceNeg, Int.reducePow, Int.reduceToNat, Nat.reducePow, Int.reduceMul, Int.reduceAdd, Int.reduceSub, Int.reduceEq, reduceCtorEq, h])
theorem mi_no {a b : D} {c : Nat} (h : Rf a b c S) : fm_x_mirrored [a, b] S = .exc c S := by
  refine Wp.rais ?_
  unfold fm_x_mirrored m_x_mirrored
  (try simp -dsimp only [↓SW.RD, SW.RU, SW.RP, Nat.reduceAdd, Nat.reduceSub, Nat.reduceLT, Nat.reduceLeDiff, Nat.reduceBEq, Int.reduceLT, Int.reduceLE, Int.reduceNeg, Int.reducePow, Int.reduceToNat, Nat.reducePow, Int.reduceMul, Int.reduceAdd, Int.reduceSub, Int.reduceEq, reduceCtorEq, of_no h])
theorem l0_no {a b d : D} {c : Nat} (h : Rf a b c S) : fmL_0 [a, b, d] S = .exc c S := by
  have e : fm_x_is_mirrored [a, b] S = .exc c S := by
    refine Wp.rais ?_
    unfold fm_x_is_mirrored m_x_is_mirrored
    (try simp -dsimp only [↓SW.RD, SW.RU, SW.RP, Nat.reduceAdd, Nat.reduceSub, Nat.reduceLT, Nat.reduceLeDiff, Nat.reduceBEq, Int.reduceLT, Int.reduceLE, Int.reduceNeg, Int.reducePow, Int.reduceToNat, Nat.reducePow, Int.reduceMul, Int.reduceAdd, Int.reduceSub, Int.reduceEq, reduceCtorEq, mi_no h])
  refine Wp.rais ?_
  unfold fmL_0 SX.lamFm mL_0
  (try simp -dsimp only [↓SW.RD, SW.RU, SW.RP, Nat.reduceAdd, Nat.reduceSub, Nat.reduceLT, Nat.reduceLeDiff, Nat.reduceBEq, Int.reduceLT, Int.reduceLE, Int.reduceNeg, Int.reducePow, Int.reduceToNat, Nat.reducePow, Int.reduceMul, Int.reduceAdd, Int.reduceSub, Int.reduceEq, reduceCtorEq, e])
theorem l1_no {a b d : D} {c : Nat} (h : Rf a b c S) : fmL_1 [a, b, d] S = .exc c S := by
  refine Wp.rais ?_
  unfold fmL_1 SX.lamFm mL_1
  (try simp -dsimp only [↓SW.RD, SW.RU, SW.RP, Nat.reduceAdd, Nat.reduceSub, Nat.reduceLT, Nat.reduceLeDiff, Nat.reduceBEq, Int.reduceLT, Int.reduceLE, Int.reduceNeg, Int.reducePow, Int.reduceToNat, Nat.reducePow, Int.reduceMul, Int.reduceAdd, Int.reduceSub, Int.reduceEq, reduceCtorEq, mi_no h])
theorem l2_no {a b d : D} {c : Nat} (h : Rf a b c S) : fmL_2 [a, b, d] S = .exc c S := by
  have e : ∀ x, fm_x_led_round [a, b, x] S = .exc c S := fun x => by
    refine Wp.rais ?_
    unfold fm_x_led_round m_x_led_round
    (try simp -dsimp only [↓SW.RD, SW.RU, SW.RP, Nat.reduceAdd, Nat.reduceSub, Nat.reduceLT, Nat.reduceLeDiff, Nat.reduceBEq, Int.reduceLT, Int.reduceLE, Int.reduceNeg, Int.reducePow, Int.reduceToNat, Nat.reducePow, Int.reduceMul, Int.reduceAdd, Int.reduceSub, Int.reduceEq, reduceCtorEq, of_no h])
  refine Wp.rais ?_
  unfold fmL_2 SX.lamFm mL_2
  (try simp -dsimp only [↓SW.RD, SW.RU, SW.RP, Nat.reduceAdd, Nat.reduceSub, Nat.reduceLT, Nat.reduceLeDiff, Nat.reduceBEq, Int.reduceLT, Int.reduceLE, Int.reduceNeg, Int.reducePow, Int.reduceToNat, Nat.reducePow, Int.reduceMul, Int.reduceAdd, Int.reduceSub, Int.reduceEq, reduceCtorEq, e])
theorem l3_no {a b d : D} {c : Nat} (h : Rf a b c S) : fmL_3 [a, b, d] S = .exc c S := by
  have e : ∀ x, fm_x_spread [a, b, x] S = .exc c S := fun x => by
    refine Wp.rais ?_
    unfold fm_x_spread m_x_spread
    (try simp -dsimp only [↓SW.RD, SW.RU, SW.RP, Nat.reduceAdd, Nat.reduceSub, Nat.reduceLT, Nat.reduceLeDiff, Nat.reduceBEq, Int.reduceLT, Int.reduceLE, Int.reduceNeg, Int.reducePow, Int.reduceToNat, Nat.reducePow, Int.reduceMul, Int.reduceAdd, Int.reduceSub, Int.reduceEq, reduceCtorEq, of_no h])
  refine Wp.rais ?_
  unfold fmL_3 SX.lamFm mL_3
  (try simp -dsimp only [↓SW.RD, SW.RU, SW.RP, Nat.reduceAdd, Nat.reduceSub, Nat.reduceLT, Nat.reduceLeDiff, Nat.reduceBEq, Int.reduceLT, Int.reduceLE, Int.reduceNeg, Int.reducePow, Int.reduceToNat, Nat.reducePow, Int.reduceMul, Int.reduceAdd, Int.reduceSub, Int.reduceEq, reduceCtorEq, e])
theorem eCV_eq {nc : Nat} {tbl : List (Option (List D → M D))} {mv : SH.Env → M D} {as : SH.Env → M (List D)} {ρ : SH.Env} {fm : List D → M D} {k : Nat} {ds : List D} (hm : mv ρ S = .ok (.ext k) S) (hk : nc ≤ k) (ht : tbl[k - nc]? = some (some fm)) (ha : as ρ S = .ok ds S) : SX.eCV nc tbl mv as ρ S = fm ds S := by
  unfold SX.eCV
  rw [hm]
  show (if nc ≤ k then (match tbl[k - nc]? with | some (some fm) => (as ρ S).bind fm | _ => .bad) else .bad) = _
  rw [if_pos hk, ht, ha]
  rfl
theorem as3 {a b d : D} {i j m : Nat} {ρ : SH.Env} (hi : ρ[i]? = some (some a)) (hj : ρ[j]? = some (some b)) (hm : ρ[m]? = some (some d)) : aC (eV i) (aC (eV j) (aC (eV m) aN)) ρ S = .ok [a, b, d] S := by
  unfold aC eV
  rw [hi]
  show (((match ρ[j]? with | some (some d) => R.ok d S | _ => .bad).bind fun x S1 => (aC (eV m) aN ρ S1).bind fun xs S2 => R.ok (x :: xs) S2).bind fun xs S2 => R.ok (a :: xs) S2) = _
  rw [hj]
  unfold aC eV
  show ((((match ρ[m]? with | some (some d) => R.ok d S | _ => .bad).bind fun x S1 => (aN ρ S1).bind fun xs S2 => R.ok (x :: xs) S2).bind fun xs S2 => R.ok (b :: xs) S2).bind fun xs S2 => R.ok (a :: xs) S2) = _
  rw [hm]
  rfl
noncomputable abbrev tblK : List (Option (List D → M D)) := [some fm_x_round_clashes, some fm_x_is_round, some fm_x_is_settled, some fm_x_led_down, some fmL_0, some fmL_1, some fmL_2, some fmL_3]
theorem door_eq {a b d : D} {c k i j m : Nat} {ρ : SH.Env} (hk : k ∈ [17, 18, 19, 20, 13, 14, 15, 16]) (h : Rf a b c S) (h5 : ρ[5]? = some (some (.ext k))) (hi : ρ[i]? = some (some a)) (hj : ρ[j]? = some (some b)) (hm : ρ[m]? = some (some d)) :
    SX.eCV 13 tblK (eV 5) (aC (eV i) (aC (eV j) (aC (eV m) aN))) ρ S = .exc c S := by
  have hv : eV 5 ρ S = .ok (.ext k) S := by unfold eV; rw [h5]
  have ha := as3 (S := S) hi hj hm
  simp only [List.mem_cons, List.not_mem_nil, or_false] at hk
  rcases hk with rfl | rfl | rfl | rfl | rfl | rfl | rfl | rfl
  · rw [eCV_eq (fm := fmL_0) hv (by decide) rfl ha]; exact l0_no h
  · rw [eCV_eq (fm := fmL_1) hv (by decide) rfl ha]; exact l1_no h
  · rw [eCV_eq (fm := fmL_2) hv (by decide) rfl ha]; exact l2_no h
  · rw [eCV_eq (fm := fmL_3) hv (by decide) rfl ha]; exact l3_no h
  · rw [eCV_eq (fm := fm_x_round_clashes) hv (by decide) rfl ha]; exact rc_no (ru_no h)
  · rw [eCV_eq (fm := fm_x_is_round) hv (by decide) rfl ha]; exact ir_no (ru_no h)
  · rw [eCV_eq (fm := fm_x_is_settled) hv (by decide) rfl ha]; exact is_no (ru_no h)
  · rw [eCV_eq (fm := fm_x_led_down) hv (by decide) rfl ha]; exact ld_no (ru_no h)
theorem ruled_eq {a b d : D} {c k i j m : Nat} {ρ : SH.Env} (hk : k ∈ [13, 14, 15, 16]) (h : fm_x_check_ruled_row [a, b, d] S = .exc c S) (h5 : ρ[5]? = some (some (.ext k))) (hi : ρ[i]? = some (some a)) (hj : ρ[j]? = some (some b)) (hm : ρ[m]? = some (some d)) :
    SX.eCV 13 tblK (eV 5) (aC (eV i) (aC (eV j) (aC (eV m) aN))) ρ S = .exc c S := by
  have hv : eV 5 ρ S = .ok (.ext k) S := by unfold eV; rw [h5]
  have ha := as3 (S := S) hi hj hm
  simp only [List.mem_cons, List.not_mem_nil, or_false] at hk
  rcases hk with rfl | rfl | rfl | rfl
  · rw [eCV_eq (fm := fm_x_round_clashes) hv (by decide) rfl ha]; exact rc_no h
  · rw [eCV_eq (fm := fm_x_is_round) hv (by decide) rfl ha]; exact ir_no h
  · rw [eCV_eq (fm := fm_x_is_settled) hv (by decide) rfl ha]; exact is_no h
  · rw [eCV_eq (fm := fm_x_led_down) hv (by decide) rfl ha]; exact ld_no h
theorem rf_hues {a b : D} (h1 : okD S a) (h2 : isIn 1 3 a = false) : Rf a b 0 S := .inl (by rw [check_hues_eq h1, if_neg (by rw [h2]; decide)])
theorem rf_row {h : Nat} {b : D} (h1 : 1 ≤ h) (h2 : h ≤ 3) (hb : okT S b) (hn : rowB (h : Int) b = false) : Rf (.int (h : Nat)) b 1 S := .inr ⟨check_hues_ok h1 h2, by rw [check_row_eq hb, if_neg (by rw [hn]; decide)]⟩
theorem ruled_rule {h : Nat} {row : List Nat} {d : D} (h1 : 1 ≤ h) (h2 : h ≤ 3) (hr : ROk h row) (hn : noRu d S) : fm_x_check_ruled_row [.int (h : Nat), encN row, d] S = .exc 2 S := by
  unfold noRu at hn
  refine Wp.rais ?_
  unfold fm_x_check_ruled_row m_x_check_ruled_row
  (try simp -dsimp only [↓SW.RD, SW.RU, SW.RP, Nat.reduceAdd, Nat.reduceSub, Nat.reduceLT, Nat.reduceLeDiff, Nat.reduceBEq, Int.reduceLT, Int.reduceLE, Int.reduceNeg, Int.reducePow, Int.reduceToNat, Nat.reducePow, Int.reduceMul, Int.reduceAdd, Int.reduceSub, Int.reduceEq, reduceCtorEq, check_hues_ok h1 h2, check_row_ok hr, hn])
theorem word_0 : wordS.getD 0 "" = "hues" := rfl
theorem word_1 : wordS.getD 1 "" = "row" := rfl
theorem word_2 : wordS.getD 2 "" = "rule" := rfl
theorem ne_hue : eqD true (.str "hues") (.str "hues") S = .ok (.bl false) S := by rw [eq_str (by decide +kernel) (by decide +kernel)]; rfl
theorem ne_row : eqD true (.str "row") (.str "row") S = .ok (.bl false) S := by rw [eq_str (by decide +kernel) (by decide +kernel)]; rfl
theorem ne_rul : eqD true (.str "rule") (.str "rule") S = .ok (.bl false) S := by rw [eq_str (by decide +kernel) (by decide +kernel)]; rfl
theorem w_doors {l h : Nat} {row : List Nat} (hs : St l S) (h1 : 1 ≤ h) (h2 : h ≤ 3) (hr : ROk h row) (k : ∀ S', St l S' → Kp l S S' → Q (.bl true) S') : Wp (fm_x_law_doors_right [.loc l, .int (h : Nat), encN row] S) Q X := by
  have hz := sz
  unfold fm_x_law_doors_right m_x_law_doors_right
  (try simp -dsimp only [↓SW.RD, SW.RU, SW.RP, Nat.reduceAdd, Nat.reduceSub, Nat.reduceLT, Nat.reduceLeDiff, Nat.reduceBEq, Int.reduceLT, Int.reduceLE, Int.reduceNeg, Int.reducePow, Int.reduceToNat, Nat.reducePow, Int.reduceMul, Int.reduceAdd, Int.reduceSub, Int.reduceEq, reduceCtorEq])
  refine w_nohues hs fun none1 S1 n1 n2 hs1 kp1 => ?_
  (try simp -dsimp only [↓SW.RD, SW.RU, SW.RP, Nat.reduceAdd, Nat.reduceSub, Nat.reduceLT, Nat.reduceLeDiff, Nat.reduceBEq, Int.reduceLT, Int.reduceLE, Int.reduceNeg, Int.reducePow, Int.reduceToNat, Nat.reducePow, Int.reduceMul, Int.reduceAdd, Int.reduceSub, Int.reduceEq, reduceCtorEq])
  refine w_norow hs1 h1 h2 fun bad S2 hbad hs2 kp2 => ?_
  (try simp -dsimp only [↓SW.RD, SW.RU, SW.RP, Nat.reduceAdd, Nat.reduceSub, Nat.reduceLT, Nat.reduceLeDiff, Nat.reduceBEq, Int.reduceLT, Int.reduceLE, Int.reduceNeg, Int.reducePow, Int.reduceToNat, Nat.reducePow, Int.reduceMul, Int.reduceAdd, Int.reduceSub, Int.reduceEq, reduceCtorEq])
  refine w_norule hs2 fun odd S3 hodd hs3 kp3 => ?_
  (try simp -dsimp only [↓SW.RD, SW.RU, SW.RP, Nat.reduceAdd, Nat.reduceSub, Nat.reduceLT, Nat.reduceLeDiff, Nat.reduceBEq, Int.reduceLT, Int.reduceLE, Int.reduceNeg, Int.reducePow, Int.reduceToNat, Nat.reducePow, Int.reduceMul, Int.reduceAdd, Int.reduceSub, Int.reduceEq, reduceCtorEq])
  have hlt3 := hs3.lt
  have x3 : Ex S3 (S3 ++ [Ob.lst [D.ext 17, D.ext 18, D.ext 19, D.ext 20]] ++ [Ob.lst [D.ext 13, D.ext 14, D.ext 15, D.ext 16]] ++ [Ob.lst [D.ext 17, D.ext 18, D.ext 19, D.ext 20, D.ext 13, D.ext 14, D.ext 15, D.ext 16]]) := Ex.new.snoc.snoc
  have g8 := get_snoc (S3 ++ [Ob.lst [D.ext 17, D.ext 18, D.ext 19, D.ext 20]] ++ [Ob.lst [D.ext 13, D.ext 14, D.ext 15, D.ext 16]]) (Ob.lst [D.ext 17, D.ext 18, D.ext 19, D.ext 20, D.ext 13, D.ext 14, D.ext 15, D.ext 16])
  have g4 : (S3 ++ [Ob.lst [D.ext 17, D.ext 18, D.ext 19, D.ext 20]] ++ [Ob.lst [D.ext 13, D.ext 14, D.ext 15, D.ext 16]] ++ [Ob.lst [D.ext 17, D.ext 18, D.ext 19, D.ext 20, D.ext 13, D.ext 14, D.ext 15, D.ext 16]])[(S3 ++ [Ob.lst [D.ext 17, D.ext 18, D.ext 19, D.ext 20]]).length]? = some (Ob.lst [D.ext 13, D.ext 14, D.ext 15, D.ext 16]) := by simp
  generalize S3 ++ [Ob.lst [D.ext 17, D.ext 18, D.ext 19, D.ext 20]] ++ [Ob.lst [D.ext 13, D.ext 14, D.ext 15, D.ext 16]] ++ [Ob.lst [D.ext 17, D.ext 18, D.ext 19, D.ext 20, D.ext 13, D.ext 14, D.ext 15, D.ext 16]] = S4 at x3 g8 g4
  generalize (S3 ++ [Ob.lst [D.ext 17, D.ext 18, D.ext 19, D.ext 20]] ++ [Ob.lst [D.ext 13, D.ext 14, D.ext 15, D.ext 16]]).length = T8 at g8
  generalize (S3 ++ [Ob.lst [D.ext 17, D.ext 18, D.ext 19, D.ext 20]]).length = T4 at g4
  have kpn : ∀ {S5}, Ex S4 S5 → Kp l S1 S5 := fun x5 => (kp2.trans kp3).trans (.ex (x3.trans x5))
  have kpb : ∀ {S5}, Ex S4 S5 → Kp l S2 S5 := fun x5 => kp3.trans (.ex (x3.trans x5))
  refine w_for (xs := [17, 18, 19, 20, 13, 14, 15, 16]) (f := fun k => .ext k) (fun pre ρ S' => Ex S4 S' ∧ ∃ b5, ρ = [some (.loc l), some (.int (h : Nat)), some (encN row), some (.loc S3.length), some (.loc T4), b5, some none1, some bad, some odd]) rfl ⟨.refl, none, rfl⟩ ?_ ?_
  · rintro pre k post e' _ S9 ⟨x9, b5, rfl⟩
    have hk : k ∈ [17, 18, 19, 20, 13, 14, 15, 16] := by rw [e']; simp
    refine ⟨x9.get g8, ?_⟩
    (try simp -dsimp only [↓SW.RD, SW.RU, SW.RP, Nat.reduceAdd, Nat.reduceSub, Nat.reduceLT, Nat.reduceLeDiff, Nat.reduceBEq, Int.reduceLT, Int.reduceLE, Int.reduceNeg, Int.reducePow, Int.reduceToNat, Nat.reducePow, Int.reduceMul, Int.reduceAdd, Int.reduceSub, Int.reduceEq, reduceCtorEq])
    refine Wp.rw (door_eq hk (rf_hues (n1 _ (kpn x9)) n2) (by rfl) (by rfl) (by rfl) (by rfl)) ?_
    (try simp -dsimp only [↓SW.RD, SW.RU, SW.RP, Nat.reduceAdd, Nat.reduceSub, Nat.reduceLT, Nat.reduceLeDiff, Nat.reduceBEq, Int.reduceLT, Int.reduceLE, Int.reduceNeg, Int.reducePow, Int.reduceToNat, Nat.reducePow, Int.reduceMul, Int.reduceAdd, Int.reduceSub, Int.reduceEq, reduceCtorEq])
    refine w_word (by decide) fun S10 x10 => ?_
    (try simp -dsimp only [↓SW.RD, SW.RU, SW.RP, Nat.reduceAdd, Nat.reduceSub, Nat.reduceLT, Nat.reduceLeDiff, Nat.reduceBEq, Int.reduceLT, Int.reduceLE, Int.reduceNeg, Int.reducePow, Int.reduceToNat, Nat.reducePow, Int.reduceMul, Int.reduceAdd, Int.reduceSub, Int.reduceEq, reduceCtorEq, word_0, ne_hue])
    refine Wp.rw (door_eq hk (rf_row h1 h2 (hbad.1 _ (kpb (x9.trans x10))) hbad.2) (by rfl) (by rfl) (by rfl) (by rfl)) ?_
    (try simp -dsimp only [↓SW.RD, SW.RU, SW.RP, Nat.reduceAdd, Nat.reduceSub, Nat.reduceLT, Nat.reduceLeDiff, Nat.reduceBEq, Int.reduceLT, Int.reduceLE, Int.reduceNeg, Int.reducePow, Int.reduceToNat, Nat.reducePow, Int.reduceMul, Int.reduceAdd, Int.reduceSub, Int.reduceEq, reduceCtorEq])
    refine w_word (by decide) fun S11 x11 => ?_
    (try simp -dsimp only [↓SW.RD, SW.RU, SW.RP, Nat.reduceAdd, Nat.reduceSub, Nat.reduceLT, Nat.reduceLeDiff, Nat.reduceBEq, Int.reduceLT, Int.reduceLE, Int.reduceNeg, Int.reducePow, Int.reduceToNat, Nat.reducePow, Int.reduceMul, Int.reduceAdd, Int.reduceSub, Int.reduceEq, reduceCtorEq, word_1, ne_row])
    exact ⟨(x9.trans x10).trans x11, _, rfl⟩
  rintro _ S9 ⟨x9, b5, rfl⟩
  refine ⟨x9.get g8, ?_⟩
  (try simp -dsimp only [↓SW.RD, SW.RU, SW.RP, Nat.reduceAdd, Nat.reduceSub, Nat.reduceLT, Nat.reduceLeDiff, Nat.reduceBEq, Int.reduceLT, Int.reduceLE, Int.reduceNeg, Int.reducePow, Int.reduceToNat, Nat.reducePow, Int.reduceMul, Int.reduceAdd, Int.reduceSub, Int.reduceEq, reduceCtorEq, x9.get g4])
  refine w_for (xs := [13, 14, 15, 16]) (f := fun k => .ext k) (fun pre ρ S' => Ex S4 S' ∧ ∃ b5, ρ = [some (.loc l), some (.int (h : Nat)), some (encN row), some (.loc S3.length), some (.loc T4), b5, some none1, some bad, some odd]) rfl ⟨x9, _, rfl⟩ ?_ ?_
  · rintro pre k post e' _ S9 ⟨x9, b5, rfl⟩
    have hk : k ∈ [13, 14, 15, 16] := by rw [e']; simp
    have hk8 : k ∈ [17, 18, 19, 20, 13, 14, 15, 16] := List.mem_append_right [17, 18, 19, 20] hk
    refine ⟨x9.get g4, ?_⟩
    (try simp -dsimp only [↓SW.RD, SW.RU, SW.RP, Nat.reduceAdd, Nat.reduceSub, Nat.reduceLT, Nat.reduceLeDiff, Nat.reduceBEq, Int.reduceLT, Int.reduceLE, Int.reduceNeg, Int.reducePow, Int.reduceToNat, Nat.reducePow, Int.reduceMul, Int.reduceAdd, Int.reduceSub, Int.reduceEq, reduceCtorEq])
    refine Wp.rw (ruled_eq hk (ruled_rule h1 h2 hr (hodd _ (.ex (x3.trans x9)))) (by rfl) (by rfl) (by rfl) (by rfl)) ?_
    (try simp -dsimp only [↓SW.RD, SW.RU, SW.RP, Nat.reduceAdd, Nat.reduceSub, Nat.reduceLT, Nat.reduceLeDiff, Nat.reduceBEq, Int.reduceLT, Int.reduceLE, Int.reduceNeg, Int.reducePow, Int.reduceToNat, Nat.reducePow, Int.reduceMul, Int.reduceAdd, Int.reduceSub, Int.reduceEq, reduceCtorEq])
    refine w_word (by decide) fun S10 x10 => ?_
    (try simp -dsimp only [↓SW.RD, SW.RU, SW.RP, Nat.reduceAdd, Nat.reduceSub, Nat.reduceLT, Nat.reduceLeDiff, Nat.reduceBEq, Int.reduceLT, Int.reduceLE, Int.reduceNeg, Int.reducePow, Int.reduceToNat, Nat.reducePow, Int.reduceMul, Int.reduceAdd, Int.reduceSub, Int.reduceEq, reduceCtorEq, word_2, ne_rul])
    refine Wp.rw (door_eq hk8 (rf_hues (n1 _ (kpn (x9.trans x10))) n2) (by rfl) (by rfl) (by rfl) (by rfl)) ?_
    (try simp -dsimp only [↓SW.RD, SW.RU, SW.RP, Nat.reduceAdd, Nat.reduceSub, Nat.reduceLT, Nat.reduceLeDiff, Nat.reduceBEq, Int.reduceLT, Int.reduceLE, Int.reduceNeg, Int.reducePow, Int.reduceToNat, Nat.reducePow, Int.reduceMul, Int.reduceAdd, Int.reduceSub, Int.reduceEq, reduceCtorEq])
    refine w_word (by decide) fun S11 x11 => ?_
    (try simp -dsimp only [↓SW.RD, SW.RU, SW.RP, Nat.reduceAdd, Nat.reduceSub, Nat.reduceLT, Nat.reduceLeDiff, Nat.reduceBEq, Int.reduceLT, Int.reduceLE, Int.reduceNeg, Int.reducePow, Int.reduceToNat, Nat.reducePow, Int.reduceMul, Int.reduceAdd, Int.reduceSub, Int.reduceEq, reduceCtorEq, word_0, ne_hue])
    exact ⟨(x9.trans x10).trans x11, _, rfl⟩
  · rintro _ S9 ⟨x9, b5, rfl⟩
    refine ⟨x9.get g4, ?_⟩
    (try simp -dsimp only [↓SW.RD, SW.RU, SW.RP, Nat.reduceAdd, Nat.reduceSub, Nat.reduceLT, Nat.reduceLeDiff, Nat.reduceBEq, Int.reduceLT, Int.reduceLE, Int.reduceNeg, Int.reducePow, Int.reduceToNat, Nat.reducePow, Int.reduceMul, Int.reduceAdd, Int.reduceSub, Int.reduceEq, reduceCtorEq])
    exact k _ (hs3.ex (x3.trans x9)) (kp1.trans (kpn x9))
end
end SP
set_option Elab.async false
set_option linter.all false
set_option maxRecDepth 100000
set_option maxHeartbeats 3200000
namespace SP
open PySem L2 SH SK SW
section
variable {S : Store} {X : Nat → Store → Prop} {Q : D → Store → Prop}
theorem of_ok {h : Nat} {row : List Nat} (h1 : 1 ≤ h) (h2 : h ≤ 3) (hr : ROk h row) : fm_x_check_row_of [.int (h : Nat), encN row] S = .ok .non S := by
  refine Wp.pure ?_
  unfold fm_x_check_row_of m_x_check_row_of
  (try simp -dsimp only [↓SW.RD, SW.RU, SW.RP, Nat.reduceAdd, Nat.reduceSub, Nat.reduceLT, Nat.reduceLeDiff, Nat.reduceBEq, Int.reduceLT, Int.reduceLE, Int.reduceNeg, Int.reducePow, Int.reduceToNat, Nat.reducePow, Int.reduceMul, Int.reduceAdd, Int.reduceSub, Int.reduceEq, reduceCtorEq, check_hues_ok h1 h2, check_row_ok hr])
theorem laid_1 {a b c d : D} {e : Nat} (h : Rf a b e S) : fm_x_laid [a, b, c, d] S = .exc e S := by
  refine Wp.rais ?_
  unfold fm_x_laid m_x_laid
  (try simp -dsimp only [↓SW.RD, SW.RU, SW.RP, Nat.reduceAdd, Nat.reduceSub, Nat.reduceLT, Nat.reduceLeDiff, Nat.reduceBEq, Int.reduceLT, Int.reduceLE, Int.reduceNeg, Int.reducePow, Int.reduceToNat, Nat.reducePow, Int.reduceMul, Int.reduceAdd, Int.reduceSub, Int.reduceEq, reduceCtorEq, of_no h])
theorem laid_2 {h : Nat} {row : List Nat} {c d : D} {e : Nat} (h1 : 1 ≤ h) (h2 : h ≤ 3) (hr : ROk h row) (hh : Rf c d e S) : fm_x_laid [.int (h : Nat), encN row, c, d] S = .exc e S := by
  refine Wp.rais ?_
  unfold fm_x_laid m_x_laid
  (try simp -dsimp only [↓SW.RD, SW.RU, SW.RP, Nat.reduceAdd, Nat.reduceSub, Nat.reduceLT, Nat.reduceLeDiff, Nat.reduceBEq, Int.reduceLT, Int.reduceLE, Int.reduceNeg, Int.reducePow, Int.reduceToNat, Nat.reducePow, Int.reduceMul, Int.reduceAdd, Int.reduceSub, Int.reduceEq, reduceCtorEq, of_ok h1 h2 hr, of_no hh])
theorem laid_3 {h : Nat} {row : List Nat} (h1 : 1 ≤ h) (h2 : h ≤ 3) (hr : ROk h row) : fm_x_laid [.int (h : Nat), encN row, .int (3 : Nat), encN [0, 1, 2]] S = .exc 9 S := by
  have hl := hr.1
  have ew : fm_x_width_of [encN row] S = .ok (.int ((2 * row.length + 1 : Nat) : Int)) S := by
    refine Wp.pure ?_
    unfold fm_x_width_of m_x_width_of
    (try simp -dsimp only [↓SW.RD, SW.RU, SW.RP, Nat.reduceAdd, Nat.reduceSub, Nat.reduceLT, Nat.reduceLeDiff, Nat.reduceBEq, Int.reduceLT, Int.reduceLE, Int.reduceNeg, Int.reducePow, Int.reduceToNat, Nat.reducePow, Int.reduceMul, Int.reduceAdd, Int.reduceSub, Int.reduceEq, reduceCtorEq])
    push_cast
    rfl
  refine Wp.rais ?_
  unfold fm_x_laid m_x_laid
  (try simp -dsimp only [↓SW.RD, SW.RU, SW.RP, Nat.reduceAdd, Nat.reduceSub, Nat.reduceLT, Nat.reduceLeDiff, Nat.reduceBEq, Int.reduceLT, Int.reduceLE, Int.reduceNeg, Int.reducePow, Int.reduceToNat, Nat.reducePow, Int.reduceMul, Int.reduceAdd, Int.reduceSub, Int.reduceEq, reduceCtorEq, of_ok h1 h2 hr, of_ok (h := 3) (by decide) (by decide) (show ROk 3 [0, 1, 2] from ⟨by decide, by decide⟩), ew, cd_MOST_HUES, cd_MOST_NUMBERS])
  omega
theorem eq_nil {l l' : Nat} {xs : List Nat} (hl : S[l]? = some (.lst (xs.map fun n => .int (n : Nat)))) (hl' : S[l']? = some (.lst [])) : eqD false (.loc l) (.loc l') S = .ok (.bl (decide (xs = []))) S := eq_LI (neg := false) (ys := []) hl hl'
def c6 (t : D × D × D × D × Nat) : D := .tup [t.1, t.2.1, t.2.2.1, t.2.2.2.1, .str (wordS.getD t.2.2.2.2 "")]
theorem at3 {x y z w : D} {xs : List D} : atI (x :: y :: z :: w :: xs) 3 = some w := atI_nat (k := 3) rfl
theorem at4 {x y z w v : D} {xs : List D} : atI (x :: y :: z :: w :: v :: xs) 4 = some v := atI_nat (k := 4) rfl
theorem ne_word {c : Nat} (hc : c < 13) : eqD true (.str (wordS.getD c "")) (.str (wordS.getD c "")) S = .ok (.bl false) S := by
  have hs : SeqAt.shaped (.str (wordS.getD c "")) = true := by
    match c, hc with
    | 0, _ | 1, _ | 2, _ | 3, _ | 4, _ | 5, _ | 6, _ | 7, _ | 8, _ | 9, _ | 10, _ | 11, _ | 12, _ => decide +kernel
  rw [eq_str hs hs, if_pos rfl]
  simp
theorem w_laid {l h : Nat} {row : List Nat} (hs : St l S) (h1 : 1 ≤ h) (h2 : h ≤ 3) (hr : ROk h row) (k : ∀ S', Q (.bl true) S') : Wp (fm_x_law_laid_right [.loc l, .int (h : Nat), encN row] S) Q X := by
  have hz := sz
  unfold fm_x_law_laid_right m_x_law_laid_right
  (try simp -dsimp only [↓SW.RD, SW.RU, SW.RP, Nat.reduceAdd, Nat.reduceSub, Nat.reduceLT, Nat.reduceLeDiff, Nat.reduceBEq, Int.reduceLT, Int.reduceLE, Int.reduceNeg, Int.reducePow, Int.reduceToNat, Nat.reducePow, Int.reduceMul, Int.reduceAdd, Int.reduceSub, Int.reduceEq, reduceCtorEq, w_sPar3, w_parK3])
  refine w_nohues hs fun none1 S1 n1 n2 hs1 kp1 => ?_
  (try simp -dsimp only [↓SW.RD, SW.RU, SW.RP, Nat.reduceAdd, Nat.reduceSub, Nat.reduceLT, Nat.reduceLeDiff, Nat.reduceBEq, Int.reduceLT, Int.reduceLE, Int.reduceNeg, Int.reducePow, Int.reduceToNat, Nat.reducePow, Int.reduceMul, Int.reduceAdd, Int.reduceSub, Int.reduceEq, reduceCtorEq])
  refine w_norow hs1 h1 h2 fun bad S2 hbad hs2 kp2 => ?_
  (try simp -dsimp only [↓SW.RD, SW.RU, SW.RP, Nat.reduceAdd, Nat.reduceSub, Nat.reduceLT, Nat.reduceLeDiff, Nat.reduceBEq, Int.reduceLT, Int.reduceLE, Int.reduceNeg, Int.reducePow, Int.reduceToNat, Nat.reducePow, Int.reduceMul, Int.reduceAdd, Int.reduceSub, Int.reduceEq, reduceCtorEq])
  refine w_norow (h := 3) hs2 (by decide) (by decide) fun more S3 hmore hs3 kp3 => ?_
  (try simp -dsimp only [↓SW.RD, SW.RU, SW.RP, Nat.reduceAdd, Nat.reduceSub, Nat.reduceLT, Nat.reduceLeDiff, Nat.reduceBEq, Int.reduceLT, Int.reduceLE, Int.reduceNeg, Int.reducePow, Int.reduceToNat, Nat.reducePow, Int.reduceMul, Int.reduceAdd, Int.reduceSub, Int.reduceEq, reduceCtorEq, w_sPar3, w_parK3])
  have hc : ∀ t ∈ [(none1, bad, none1, more, 0), (.int (h : Nat), bad, none1, more, 1), (.int (h : Nat), encN row, none1, more, 0), (.int (h : Nat), encN row, .int (3 : Nat), more, 1), (.int (h : Nat), encN row, .int (3 : Nat), encN [0, 1, 2], 9), (none1, encN row, .int (3 : Nat), encN [], 0)], t.2.2.2.2 < 13 ∧ ∀ S', Ex S3 S' → fm_x_laid [t.1, t.2.1, t.2.2.1, t.2.2.2.1] S' = .exc t.2.2.2.2 S' := by
    intro t ht
    have kn : ∀ {S'}, Ex S3 S' → okD S' none1 := fun x => n1 _ ((kp2.trans kp3).trans (.ex x))
    have kb : ∀ {S'}, Ex S3 S' → okT S' bad := fun x => hbad.1 _ (kp3.trans (.ex x))
    have km : ∀ {S'}, Ex S3 S' → okT S' more := fun x => hmore.1 _ (.ex x)
    simp only [List.mem_cons, List.not_mem_nil, or_false] at ht
    rcases ht with rfl | rfl | rfl | rfl | rfl | rfl
    · exact ⟨by simp, fun S' x => laid_1 (rf_hues (kn x) n2)⟩
    · exact ⟨by simp, fun S' x => laid_1 (rf_row h1 h2 (kb x) hbad.2)⟩
    · exact ⟨by simp, fun S' x => laid_2 h1 h2 hr (rf_hues (kn x) n2)⟩
    · exact ⟨by simp, fun S' x => laid_2 h1 h2 hr (rf_row (by decide) (by decide) (km x) hmore.2)⟩
    · exact ⟨by simp, fun S' x => laid_3 h1 h2 hr⟩
    · exact ⟨by simp, fun S' x => laid_1 (rf_hues (kn x) n2)⟩
  refine w_lcF (xs := [(none1, bad, none1, more, 0), (.int (h : Nat), bad, none1, more, 1), (.int (h : Nat), encN row, none1, more, 0), (.int (h : Nat), encN row, .int (3 : Nat), more, 1), (.int (h : Nat), encN row, .int (3 : Nat), encN [0, 1, 2], 9), (none1, encN row, .int (3 : Nat), encN [], 0)]) (f := c6) (fun _ => false) c6 rfl (fun S' x => x.get (get_snoc _ _)) (by show 6 ≤ sizeLine; omega) (fun t ht S4 x4 => ?_) fun S4 x4 => ?_
  · obtain ⟨c1, c2⟩ := hc t ht
    unfold c6
    have e := c2 S4 (Ex.new.snoc.snoc.trans x4)
    (try simp -dsimp only [↓SW.RD, SW.RU, SW.RP, Nat.reduceAdd, Nat.reduceSub, Nat.reduceLT, Nat.reduceLeDiff, Nat.reduceBEq, Int.reduceLT, Int.reduceLE, Int.reduceNeg, Int.reducePow, Int.reduceToNat, Nat.reducePow, Int.reduceMul, Int.reduceAdd, Int.reduceSub, Int.reduceEq, reduceCtorEq, at3, at4, e, c1])
    refine w_word c1 fun S5 x5 => ?_
    (try simp -dsimp only [↓SW.RD, SW.RU, SW.RP, Nat.reduceAdd, Nat.reduceSub, Nat.reduceLT, Nat.reduceLeDiff, Nat.reduceBEq, Int.reduceLT, Int.reduceLE, Int.reduceNeg, Int.reducePow, Int.reduceToNat, Nat.reducePow, Int.reduceMul, Int.reduceAdd, Int.reduceSub, Int.reduceEq, reduceCtorEq, at4, ne_word c1])
    exact x5
  · rw [List.filter_eq_nil_iff.mpr fun _ _ => by decide]
    (try simp -dsimp only [↓SW.RD, SW.RU, SW.RP, Nat.reduceAdd, Nat.reduceSub, Nat.reduceLT, Nat.reduceLeDiff, Nat.reduceBEq, Int.reduceLT, Int.reduceLE, Int.reduceNeg, Int.reducePow, Int.reduceToNat, Nat.reducePow, Int.reduceMul, Int.reduceAdd, Int.reduceSub, Int.reduceEq, reduceCtorEq])
    refine Wp.rw (eq_nil (xs := []) (Ex.new.get (get_snoc _ _)) (get_snoc _ _)) ?_
    (try simp -dsimp only [↓SW.RD, SW.RU, SW.RP, Nat.reduceAdd, Nat.reduceSub, Nat.reduceLT, Nat.reduceLeDiff, Nat.reduceBEq, Int.reduceLT, Int.reduceLE, Int.reduceNeg, Int.reducePow, Int.reduceToNat, Nat.reducePow, Int.reduceMul, Int.reduceAdd, Int.reduceSub, Int.reduceEq, reduceCtorEq])
    exact k _
theorem law_true (ns : List Int) (hn : ns.length ≤ 63) : ∃ S', fm_x_law [.con (ns.map D.int)] [] = .ok (.bl true) S' := by
  have hz := sz
  suffices h : Wp (fm_x_law [.con (ns.map D.int)] []) (fun d _ => d = .bl true) SW.no by
    obtain ⟨a, S', e, rfl⟩ := h.ex
    exact ⟨S', e⟩
  unfold fm_x_law m_x_law
  (try simp -dsimp only [↓SW.RD, SW.RU, SW.RP, Nat.reduceAdd, Nat.reduceSub, Nat.reduceLT, Nat.reduceLeDiff, Nat.reduceBEq, Int.reduceLT, Int.reduceLE, Int.reduceNeg, Int.reducePow, Int.reduceToNat, Nat.reducePow, Int.reduceMul, Int.reduceAdd, Int.reduceSub, Int.reduceEq, reduceCtorEq, List.length_map])
  refine ⟨by split <;> omega, ?_⟩
  refine w_for (f := fun n => .int (n : Nat)) (fun pre ρ S' => ∃ a1 a2 a3 a4, ρ = [some (D.con (List.map D.int ns)), a1, a2, a3, a4]) rng_0 ⟨_, _, _, _, rfl⟩ ?_ ?_
  · rintro pre x post e _ S0 ⟨a1, a2, a3, a4, rfl⟩
    refine ⟨trivial, ?_⟩
    (try simp -dsimp only [↓SW.RD, SW.RU, SW.RP, Nat.reduceAdd, Nat.reduceSub, Nat.reduceLT, Nat.reduceLeDiff, Nat.reduceBEq, Int.reduceLT, Int.reduceLE, Int.reduceNeg, Int.reducePow, Int.reduceToNat, Nat.reducePow, Int.reduceMul, Int.reduceAdd, Int.reduceSub, Int.reduceEq, reduceCtorEq])
    refine w_state fun S1 hs1 x1 _ => ?_
    (try simp -dsimp only [↓SW.RD, SW.RU, SW.RP, Nat.reduceAdd, Nat.reduceSub, Nat.reduceLT, Nat.reduceLeDiff, Nat.reduceBEq, Int.reduceLT, Int.reduceLE, Int.reduceNeg, Int.reducePow, Int.reduceToNat, Nat.reducePow, Int.reduceMul, Int.reduceAdd, Int.reduceSub, Int.reduceEq, reduceCtorEq])
    refine w_take hs1 (by decide) (by decide) fun g S2 hg hs2 kp2 => ?_
    have eg : (1 : Int) + ((g : Nat) : Int) = ((g + 1 : Nat) : Int) := by omega
    have g1 : 1 ≤ g + 1 := by omega
    have g2 : g + 1 ≤ 3 := by omega
    (try simp -dsimp only [↓SW.RD, SW.RU, SW.RP, Nat.reduceAdd, Nat.reduceSub, Nat.reduceLT, Nat.reduceLeDiff, Nat.reduceBEq, Int.reduceLT, Int.reduceLE, Int.reduceNeg, Int.reducePow, Int.reduceToNat, Nat.reducePow, Int.reduceMul, Int.reduceAdd, Int.reduceSub, Int.reduceEq, reduceCtorEq, eg])
    refine w_take hs2 (by decide) (by decide) fun m S3 hm hs3 kp3 => ?_
    (try simp -dsimp only [↓SW.RD, SW.RU, SW.RP, Nat.reduceAdd, Nat.reduceSub, Nat.reduceLT, Nat.reduceLeDiff, Nat.reduceBEq, Int.reduceLT, Int.reduceLE, Int.reduceNeg, Int.reducePow, Int.reduceToNat, Nat.reducePow, Int.reduceMul, Int.reduceAdd, Int.reduceSub, Int.reduceEq, reduceCtorEq, eg])
    refine w_row hs3 g1 g2 (by omega) fun row S4 hl hrow hs4 kp4 => ?_
    have hr : ROk (g + 1) row := ⟨by omega, hrow⟩
    (try simp -dsimp only [↓SW.RD, SW.RU, SW.RP, Nat.reduceAdd, Nat.reduceSub, Nat.reduceLT, Nat.reduceLeDiff, Nat.reduceBEq, Int.reduceLT, Int.reduceLE, Int.reduceNeg, Int.reducePow, Int.reduceToNat, Nat.reducePow, Int.reduceMul, Int.reduceAdd, Int.reduceSub, Int.reduceEq, reduceCtorEq, eg])
    refine w_doors hs4 g1 g2 hr fun S5 hs5 kp5 => ?_
    (try simp -dsimp only [↓SW.RD, SW.RU, SW.RP, Nat.reduceAdd, Nat.reduceSub, Nat.reduceLT, Nat.reduceLeDiff, Nat.reduceBEq, Int.reduceLT, Int.reduceLE, Int.reduceNeg, Int.reducePow, Int.reduceToNat, Nat.reducePow, Int.reduceMul, Int.reduceAdd, Int.reduceSub, Int.reduceEq, reduceCtorEq, eg])
    refine w_laid hs5 g1 g2 hr fun S6 => ?_
    (try simp -dsimp only [↓SW.RD, SW.RU, SW.RP, Nat.reduceAdd, Nat.reduceSub, Nat.reduceLT, Nat.reduceLeDiff, Nat.reduceBEq, Int.reduceLT, Int.reduceLE, Int.reduceNeg, Int.reducePow, Int.reduceToNat, Nat.reducePow, Int.reduceMul, Int.reduceAdd, Int.reduceSub, Int.reduceEq, reduceCtorEq, eg])
    exact ⟨_, _, _, _, rfl⟩
  · rintro _ S' ⟨a1, a2, a3, a4, rfl⟩
    refine ⟨trivial, ?_⟩
    (try simp -dsimp only [↓SW.RD, SW.RU, SW.RP, Nat.reduceAdd, Nat.reduceSub, Nat.reduceLT, Nat.reduceLeDiff, Nat.reduceBEq, Int.reduceLT, Int.reduceLE, Int.reduceNeg, Int.reducePow, Int.reduceToNat, Nat.reducePow, Int.reduceMul, Int.reduceAdd, Int.reduceSub, Int.reduceEq, reduceCtorEq])
end
end SP
theorem SK.law_true (ns : List Int) (hl : ns.length ≤ 63) : ∃ S', SK.fm_x_law [.con (ns.map SH.D.int)] [] = .ok (.bl true) S' := SP.law_true ns hl
set_option Elab.async false
set_option linter.all false
set_option maxRecDepth 100000
set_option maxHeartbeats 8000000
namespace SK
open PySem PySem.Spec L2 SH
def top (i : Nat) : Stmt := PySem.Challenge.pw_sumhues_k63_refused_with_two_rows.main.body.getD i (.Pass ⟨0, 0, 0, 0⟩)
abbrev s_x_is_whole : Stmt := top 19
abbrev s_x_check_rule : Stmt := top 27
abbrev s_x_width_of : Stmt := top 39
abbrev s_x_law_cell_at : Stmt := top 57
abbrev s_x_law_take : Stmt := top 59
abbrev s_x_law_fits : Stmt := top 60
abbrev s_x_law_word : Stmt := top 62
abbrev s_x_is_within : Stmt := top 20
abbrev s_x_law_state : Stmt := top 58
abbrev s_x_law_row : Stmt := top 61
abbrev s_x_law_no_hues : Stmt := top 64
abbrev s_x_law_no_rule : Stmt := top 65
abbrev s_x_is_hue : Stmt := top 21
abbrev s_x_check_hues : Stmt := top 25
abbrev s_x_law_no_row : Stmt := top 63
abbrev s_x_is_half_row : Stmt := top 22
abbrev s_x_is_full_row : Stmt := top 23
abbrev s_x_check_row : Stmt := top 26
abbrev s_x_check_ruled_row : Stmt := top 28
abbrev s_x_check_row_of : Stmt := top 38
abbrev s_x_laid : Stmt := top 37
abbrev s_x_mirrored : Stmt := top 42
abbrev s_x_round_clashes : Stmt := top 43
abbrev s_x_led_round : Stmt := top 46
abbrev s_x_spread : Stmt := top 47
abbrev s_x_is_settled : Stmt := top 54
abbrev s_x_led_down : Stmt := top 55
abbrev s_x_is_mirrored : Stmt := top 41
abbrev s_x_is_round : Stmt := top 45
abbrev s_x_law_doors_right : Stmt := top 66
abbrev s_x_law_laid_right : Stmt := top 67
abbrev s_x_law : Stmt := top 68
def tabs : List (Addr × Addr) := [(211, 207), (461, 457), (466, 464)]
def lq : List (Addr × Str) := [(457, ("_law_doors_right" : Str) ++ ".<locals>." ++ "<lambda>"), (464, ("_law_laid_right" : Str) ++ ".<locals>." ++ "<lambda>")]
abbrev cls : List Addr := [37, 49, 61, 73, 85, 97, 109, 121, 133, 145, 157, 169, 181]
abbrev fns : List Addr := [330, 342, 387, 394]
abbrev LL_0 (mg : Str → Option Value) : SX.LamI := SX.lamOfP "_law_doors_right" mg ((SX.lstE (SX.asgV ((defBody s_x_law_doors_right).getD 1 SX.noS))).getD 0 SX.noE)
abbrev LL_1 (mg : Str → Option Value) : SX.LamI := SX.lamOfP "_law_doors_right" mg ((SX.lstE (SX.exV ((defBody s_x_law_doors_right).getD 2 SX.noS))).getD 0 SX.noE)
abbrev LL_2 (mg : Str → Option Value) : SX.LamI := SX.lamOfP "_law_doors_right" mg ((SX.lstE (SX.exV ((defBody s_x_law_doors_right).getD 3 SX.noS))).getD 0 SX.noE)
abbrev LL_3 (mg : Str → Option Value) : SX.LamI := SX.lamOfP "_law_doors_right" mg ((SX.lstE (SX.exV ((defBody s_x_law_doors_right).getD 4 SX.noS))).getD 0 SX.noE)
abbrev lamP (mg : Str → Option Value) : List SX.LamI := [LL_0 mg, LL_1 mg, LL_2 mg, LL_3 mg]
abbrev JJ0 : Ip := SX.J1 (tabs.map (·.2)) lq cls fns []
abbrev JJ (mg : Str → Option Value) : Ip := SX.J1 (tabs.map (·.2)) lq cls fns (lamP mg)
structure Txt (K : PySem.W.Frag) (mg : Str → Option Value) : Prop where
  n_ValueError : mg "ValueError" = none
  n_all : mg "all" = none
  n_bool : mg "bool" = none
  n_int : mg "int" = none
  n_isinstance : mg "isinstance" = none
  n_len : mg "len" = none
  n_list : mg "list" = none
  n_max : mg "max" = none
  n_min : mg "min" = none
  n_range : mg "range" = none
  n_tuple : mg "tuple" = none
  g_MOST_HUES : ∀ {E : XE} {X : Cx} {pos : Pos}, Gl X "MOST_HUES" → X.mg = mg → X.K = K → WE X (.Name "MOST_HUES" pos) (tM (JJ mg) X.K E (eC cd_MOST_HUES))
  g_MOST_NUMBERS : ∀ {E : XE} {X : Cx} {pos : Pos}, Gl X "MOST_NUMBERS" → X.mg = mg → X.K = K → WE X (.Name "MOST_NUMBERS" pos) (tM (JJ mg) X.K E (eC cd_MOST_NUMBERS))
  g_RULES : ∀ {E : XE} {X : Cx} {pos : Pos}, Gl X "RULES" → X.mg = mg → X.K = K → WE X (.Name "RULES" pos) (tM (JJ mg) X.K E (eC cd_RULES))
  c_HueError : mg "HueError" = some (.ref 24)
  c_NoHues : mg "NoHues" = some (.ref 37)
  c_NoRow : mg "NoRow" = some (.ref 49)
  c_NoRule : mg "NoRule" = some (.ref 61)
  c_NoNumber : mg "NoNumber" = some (.ref 73)
  c_NoHue : mg "NoHue" = some (.ref 85)
  c_NoLot : mg "NoLot" = some (.ref 97)
  c_NoStep : mg "NoStep" = some (.ref 109)
  c_NoPaper : mg "NoPaper" = some (.ref 121)
  c_NoClean : mg "NoClean" = some (.ref 133)
  c_TooMany : mg "TooMany" = some (.ref 145)
  c_NoText : mg "NoText" = some (.ref 157)
  c_NoLine : mg "NoLine" = some (.ref 169)
  c_NoDeed : mg "NoDeed" = some (.ref 181)
  fn_round_clashes : mg "round_clashes" = some (.ref 330)
  fn_is_round : mg "is_round" = some (.ref 342)
  fn_is_settled : mg "is_settled" = some (.ref 387)
  fn_led_down : mg "led_down" = some (.ref 394)
  err : SX.ErrT K 24 cls
section
variable {P : Program} {w : World} {K : PySem.W.Frag} {mg : Str → Option Value} {base : Heap}
theorem sc_x_is_whole : FnScope N_x_is_whole ["thing"] (defScope s_x_is_whole) := ⟨rfl, rfl, rfl, nd_x_is_whole, rfl, by decide +kernel, by decide +kernel⟩
theorem dv_x_is_whole {f c : Addr} (T : Txt K mg) (A : Around) (outer : List PySem.Env) (s : Shared) (H : Hp) (E : XK) (hr : Room 0 (A.deeper (PyProof.Rows.envOfC "is_whole" (defScope s_x_is_whole) s.heap.objs.size f (.ref c)))) (hx : SX.XOk (JJ mg) (cxOf (SX.CXe P w) P w K mg base N_x_is_whole "is_whole" (defScope s_x_is_whole) f (.ref c) A outer s H E) (fun c H' => E ((JJ mg).cls c) none H')) :
    WSs (cxOf (SX.CXe P w) P w K mg base N_x_is_whole "is_whole" (defScope s_x_is_whole) f (.ref c) A outer s H E) (defBody s_x_is_whole) (tS (JJ mg) K (fun c H' => E ((JJ mg).cls c) none H') m_x_is_whole) :=
  (w_ss_one (w_s_ret (w_e_and (w_e_callB c_isi rfl T.n_isinstance (by decide +kernel) (w_a_cons (w_e_var 0) (w_a_cons (w_e_ty rfl T.n_int (by decide +kernel)) w_a_nil))) (w_e_one (w_e_not (w_e_callB c_isi rfl T.n_isinstance (by decide +kernel) (w_a_cons (w_e_var 0) (w_a_cons (w_e_ty rfl T.n_bool (by decide +kernel)) w_a_nil))))))))
theorem ok_x_is_whole {f c : Addr} {fd : FuncData} (Fn : FunC K "is_whole" "is_whole" s_x_is_whole f fd c) (T : Txt K mg) : FnOk P w K mg base (SX.CXe P w) 1 f fd ["thing"] (SX.spX (JJ mg) K 1 fm_x_is_whole) :=
  SX.fn_okW Fn sc_x_is_whole (dv_x_is_whole T )
theorem sc_x_check_rule : FnScope N_x_check_rule ["rule"] (defScope s_x_check_rule) := ⟨rfl, rfl, rfl, nd_x_check_rule, rfl, by decide +kernel, by decide +kernel⟩
theorem dv_x_check_rule {f c : Addr} (T : Txt K mg) (A : Around) (outer : List PySem.Env) (s : Shared) (H : Hp) (E : XK) (hr : Room 0 (A.deeper (PyProof.Rows.envOfC "check_rule" (defScope s_x_check_rule) s.heap.objs.size f (.ref c)))) (hx : SX.XOk (JJ mg) (cxOf (SX.CXe P w) P w K mg base N_x_check_rule "check_rule" (defScope s_x_check_rule) f (.ref c) A outer s H E) (fun c H' => E ((JJ mg).cls c) none H')) :
    WSs (cxOf (SX.CXe P w) P w K mg base N_x_check_rule "check_rule" (defScope s_x_check_rule) f (.ref c) A outer s H E) (defBody s_x_check_rule) (tS (JJ mg) K (fun c H' => E ((JJ mg).cls c) none H') m_x_check_rule) :=
  (w_ss_one (w_s_if (w_t_cmp (o_notin hr.u65) (w_e_var 0) (T.g_RULES rfl rfl rfl) (by rfl)) (w_ss_one (w_s_raise hx rfl (T.err.c 2 _ rfl).ex rfl T.c_NoRule (w_a_cons w_e_str w_a_nil) (fun ρ S ds S1 h => Nat.le_trans (Nat.le_of_eq ((al_cons al_nil) ρ S ds S1 h)) (by decide)))) w_ss_nil))
theorem ok_x_check_rule {f c : Addr} {fd : FuncData} (Fn : FunC K "check_rule" "check_rule" s_x_check_rule f fd c) (T : Txt K mg) : FnOk P w K mg base (SX.CXe P w) 1 f fd ["rule"] (SX.spX (JJ mg) K 1 fm_x_check_rule) :=
  SX.fn_okW Fn sc_x_check_rule (dv_x_check_rule T )
theorem sc_x_width_of : FnScope N_x_width_of ["row"] (defScope s_x_width_of) := ⟨rfl, rfl, rfl, nd_x_width_of, rfl, by decide +kernel, by decide +kernel⟩
theorem dv_x_width_of {f c : Addr} (T : Txt K mg) (A : Around) (outer : List PySem.Env) (s : Shared) (H : Hp) (E : XK) (hr : Room 0 (A.deeper (PyProof.Rows.envOfC "width_of" (defScope s_x_width_of) s.heap.objs.size f (.ref c)))) (hx : SX.XOk (JJ mg) (cxOf (SX.CXe P w) P w K mg base N_x_width_of "width_of" (defScope s_x_width_of) f (.ref c) A outer s H E) (fun c H' => E ((JJ mg).cls c) none H')) :
    WSs (cxOf (SX.CXe P w) P w K mg base N_x_width_of "width_of" (defScope s_x_width_of) f (.ref c) A outer s H E) (defBody s_x_width_of) (tS (JJ mg) K (fun c H' => E ((JJ mg).cls c) none H') m_x_width_of) :=
  (w_ss_one (w_s_ret (w_e_op o_add (w_e_op o_mul w_e_int (w_e_callB c_len rfl T.n_len (by decide +kernel) (w_a_cons (w_e_var 0) w_a_nil))) w_e_int)))
theorem ok_x_width_of {f c : Addr} {fd : FuncData} (Fn : FunC K "width_of" "width_of" s_x_width_of f fd c) (T : Txt K mg) : FnOk P w K mg base (SX.CXe P w) 1 f fd ["row"] (SX.spX (JJ mg) K 1 fm_x_width_of) :=
  SX.fn_okW Fn sc_x_width_of (dv_x_width_of T )
theorem sc_x_law_cell_at : FnScope N_x_law_cell_at ["_law_script", "_law_k"] (defScope s_x_law_cell_at) := ⟨rfl, rfl, rfl, nd_x_law_cell_at, rfl, by decide +kernel, by decide +kernel⟩
theorem dv_x_law_cell_at {f c : Addr} (T : Txt K mg) (A : Around) (outer : List PySem.Env) (s : Shared) (H : Hp) (E : XK) (hr : Room 0 (A.deeper (PyProof.Rows.envOfC "_law_cell_at" (defScope s_x_law_cell_at) s.heap.objs.size f (.ref c)))) (hx : SX.XOk (JJ mg) (cxOf (SX.CXe P w) P w K mg base N_x_law_cell_at "_law_cell_at" (defScope s_x_law_cell_at) f (.ref c) A outer s H E) (fun c H' => E ((JJ mg).cls c) none H')) :
    WSs (cxOf (SX.CXe P w) P w K mg base N_x_law_cell_at "_law_cell_at" (defScope s_x_law_cell_at) f (.ref c) A outer s H E) (defBody s_x_law_cell_at) (tS (JJ mg) K (fun c H' => E ((JJ mg).cls c) none H') m_x_law_cell_at) :=
  (w_ss_cons (w_s_if (w_t_cmp o_lt (w_e_var 1) (w_e_callB c_len rfl T.n_len (by decide +kernel) (w_a_cons (w_e_var 0) w_a_nil)) (by rfl)) (w_ss_one (w_s_ret (w_e_ix (w_e_var 0) (w_e_var 1) (fun _ _ => rfl)))) w_ss_nil) (w_ss_one (w_s_ret w_e_int)))
theorem ok_x_law_cell_at {f c : Addr} {fd : FuncData} (Fn : FunC K "_law_cell_at" "_law_cell_at" s_x_law_cell_at f fd c) (T : Txt K mg) : FnOk P w K mg base (SX.CXe P w) 1 f fd ["_law_script", "_law_k"] (SX.spX (JJ mg) K 2 fm_x_law_cell_at) :=
  SX.fn_okW Fn sc_x_law_cell_at (dv_x_law_cell_at T )
theorem sc_x_law_take : FnScope N_x_law_take ["_law_state_here", "_law_many"] (defScope s_x_law_take) := ⟨rfl, rfl, rfl, nd_x_law_take, rfl, by decide +kernel, by decide +kernel⟩
theorem dv_x_law_take {f c : Addr} (T : Txt K mg) (A : Around) (outer : List PySem.Env) (s : Shared) (H : Hp) (E : XK) (hr : Room 0 (A.deeper (PyProof.Rows.envOfC "_law_take" (defScope s_x_law_take) s.heap.objs.size f (.ref c)))) (hx : SX.XOk (JJ mg) (cxOf (SX.CXe P w) P w K mg base N_x_law_take "_law_take" (defScope s_x_law_take) f (.ref c) A outer s H E) (fun c H' => E ((JJ mg).cls c) none H')) :
    WSs (cxOf (SX.CXe P w) P w K mg base N_x_law_take "_law_take" (defScope s_x_law_take) f (.ref c) A outer s H E) (defBody s_x_law_take) (tS (JJ mg) K (fun c H' => E ((JJ mg).cls c) none H') m_x_law_take) :=
  (w_ss_cons (w_s_if (w_t_cmp o_ge (w_e_ix (w_e_var 0) w_e_int (fun _ _ => rfl)) (w_e_var 1) (by rfl)) (w_ss_cons (w_s_set (i := 3) nd_x_law_take rfl (by first | exact Or.inl rfl | exact Or.inr rfl) (w_e_op o_mod (w_e_ix (w_e_var 0) w_e_int (fun _ _ => rfl)) (w_e_var 1))) (w_ss_cons (w_s_sub (w_e_op o_div (w_e_ix (w_e_var 0) w_e_int (fun _ _ => rfl)) (w_e_var 1)) (w_e_var 0) w_e_int (pg_sub (WE.h (w_e_var 0)) (WE.h w_e_int) set_list)) (w_ss_one (w_s_ret (w_e_var 3))))) w_ss_nil) (w_ss_cons (w_s_sub (w_e_op o_mod (w_e_op o_add (w_e_op o_mul (w_e_ix (w_e_var 0) w_e_int (fun _ _ => rfl)) w_e_int) w_e_int) w_e_int) (w_e_var 0) w_e_int (pg_sub (WE.h (w_e_var 0)) (WE.h w_e_int) set_list)) (w_ss_cons (w_s_set (i := 2) nd_x_law_take rfl (by first | exact Or.inl rfl | exact Or.inr rfl) (w_e_op o_mod (w_e_op o_add (w_e_op o_add (w_e_op o_mul (w_e_ix (w_e_var 0) w_e_int (fun _ _ => rfl)) (w_e_ix (w_e_var 0) w_e_int (fun _ _ => rfl))) (w_e_op o_mul w_e_int (w_e_ix (w_e_var 0) w_e_int (fun _ _ => rfl)))) w_e_int) w_e_int)) (w_ss_cons (w_s_set (i := 2) nd_x_law_take rfl (by first | exact Or.inl rfl | exact Or.inr rfl) (w_e_op o_mod (w_e_op o_add (w_e_op o_mul (w_e_var 2) (w_e_var 2)) (w_e_op o_mul w_e_int (w_e_var 2))) w_e_int)) (w_ss_one (w_s_ret (w_e_op o_mod (w_e_op o_div (w_e_var 2) w_e_int) (w_e_var 1))))))))
theorem ok_x_law_take {f c : Addr} {fd : FuncData} (Fn : FunC K "_law_take" "_law_take" s_x_law_take f fd c) (T : Txt K mg) : FnOk P w K mg base (SX.CXe P w) 1 f fd ["_law_state_here", "_law_many"] (SX.spX (JJ mg) K 2 fm_x_law_take) :=
  SX.fn_okW Fn sc_x_law_take (dv_x_law_take T )
theorem sc_x_law_fits : FnScope N_x_law_fits ["_law_row_here", "_law_hue", "_law_rule"] (defScope s_x_law_fits) := ⟨rfl, rfl, rfl, nd_x_law_fits, rfl, by decide +kernel, by decide +kernel⟩
theorem dv_x_law_fits {f c : Addr} (T : Txt K mg) (A : Around) (outer : List PySem.Env) (s : Shared) (H : Hp) (E : XK) (hr : Room 0 (A.deeper (PyProof.Rows.envOfC "_law_fits" (defScope s_x_law_fits) s.heap.objs.size f (.ref c)))) (hx : SX.XOk (JJ mg) (cxOf (SX.CXe P w) P w K mg base N_x_law_fits "_law_fits" (defScope s_x_law_fits) f (.ref c) A outer s H E) (fun c H' => E ((JJ mg).cls c) none H')) :
    WSs (cxOf (SX.CXe P w) P w K mg base N_x_law_fits "_law_fits" (defScope s_x_law_fits) f (.ref c) A outer s H E) (defBody s_x_law_fits) (tS (JJ mg) K (fun c H' => E ((JJ mg).cls c) none H') m_x_law_fits) :=
  (w_ss_cons (w_s_set (i := 3) nd_x_law_fits rfl (by first | exact Or.inl rfl | exact Or.inr rfl) (w_e_op o_add (w_e_callB c_len rfl T.n_len (by decide +kernel) (w_a_cons (w_e_var 0) w_a_nil)) w_e_int)) (w_ss_cons (w_s_for (vs := [4]) PassesOwn.leaving rfl (w_i_rng2 rfl T.n_range (w_a_cons w_e_int (w_a_cons (w_e_var 3) w_a_nil))) (pg_name (i := 4) nd_x_law_fits rfl (by first | exact Or.inl rfl | exact Or.inr rfl)) (g_name (i := 4) (by decide)) (w_ss_one (w_s_if (w_t_w (w_w_and (w_t_w (w_w_or (w_t_cmp o_lt (w_e_var 4) (w_e_op o_sub (w_e_var 3) (w_e_var 4)) (by rfl)) (w_w_or1 (w_t_w (w_w_and (w_t_cmp (o_eq hr.units) (w_e_var 2) w_e_str (by rfl)) (w_w_and1 (w_t_cmp (o_eq hr.units) (w_e_op o_mul w_e_int (w_e_var 4)) (w_e_var 3) (by rfl)))))))) (w_w_and (w_t_cmp (o_eq hr.units) (w_e_ix (w_e_var 0) (w_e_op o_sub (w_e_var 4) w_e_int) (fun _ _ => rfl)) (w_e_var 1) (by rfl)) (w_w_and1 (w_t_cmp (o_eq hr.units) (w_e_ix (w_e_var 0) (w_e_op o_sub (w_e_op o_sub (w_e_var 3) (w_e_var 4)) w_e_int) (fun _ _ => rfl)) (w_e_var 1) (by rfl)))))) (w_ss_one (w_s_ret w_e_bl)) w_ss_nil))) (w_ss_one (w_s_ret w_e_bl))))
theorem ok_x_law_fits {f c : Addr} {fd : FuncData} (Fn : FunC K "_law_fits" "_law_fits" s_x_law_fits f fd c) (T : Txt K mg) : FnOk P w K mg base (SX.CXe P w) 1 f fd ["_law_row_here", "_law_hue", "_law_rule"] (SX.spX (JJ mg) K 3 fm_x_law_fits) :=
  SX.fn_okW Fn sc_x_law_fits (dv_x_law_fits T )
theorem sc_x_law_word : FnScope N_x_law_word ["_law_call"] (defScope s_x_law_word) := ⟨rfl, rfl, rfl, nd_x_law_word, rfl, by decide +kernel, by decide +kernel⟩
theorem dv_x_law_word {f c : Addr} (T : Txt K mg) (A : Around) (outer : List PySem.Env) (s : Shared) (H : Hp) (E : XK) (hr : Room 12 (A.deeper (PyProof.Rows.envOfC "_law_word" (defScope s_x_law_word) s.heap.objs.size f (.ref c)))) (hx : SX.XOk (JJ mg) (cxOf (SX.CXe P w) P w K mg base N_x_law_word "_law_word" (defScope s_x_law_word) f (.ref c) A outer s H E) (fun c H' => E ((JJ mg).cls c) none H')) :
    WSs (cxOf (SX.CXe P w) P w K mg base N_x_law_word "_law_word" (defScope s_x_law_word) f (.ref c) A outer s H E) ((defBody s_x_law_word).drop 2) (tS (JJ mg) K (fun c H' => E ((JJ mg).cls c) none H') m_x_law_word) :=
  (w_ss_cons (w_s_set (i := 2) nd_x_law_word rfl (by first | exact Or.inl rfl | exact Or.inr rfl) (w_e_lst (w_a_cons (w_e_is (fe := fun c => c == 0) (WE.mk (pe_glob (v := .ref _) rfl T.c_NoHues rfl)) (fun _ h => h) (T.err.n 0 _ rfl) (fun c C h => ⟨T.err.c c C h, T.err.k c 0 C _ h rfl⟩) (w_e_var 1) rfl T.n_isinstance) (w_a_cons (w_e_is (fe := fun c => c == 1) (WE.mk (pe_glob (v := .ref _) rfl T.c_NoRow rfl)) (fun _ h => h) (T.err.n 1 _ rfl) (fun c C h => ⟨T.err.c c C h, T.err.k c 1 C _ h rfl⟩) (w_e_var 1) rfl T.n_isinstance) (w_a_cons (w_e_is (fe := fun c => c == 2) (WE.mk (pe_glob (v := .ref _) rfl T.c_NoRule rfl)) (fun _ h => h) (T.err.n 2 _ rfl) (fun c C h => ⟨T.err.c c C h, T.err.k c 2 C _ h rfl⟩) (w_e_var 1) rfl T.n_isinstance) w_a_nil))))) (w_ss_cons (w_s_set (i := 2) nd_x_law_word rfl (by first | exact Or.inl rfl | exact Or.inr rfl) (w_e_op o_add (w_e_var 2) (w_e_lst (w_a_cons (w_e_is (fe := fun c => c == 3) (WE.mk (pe_glob (v := .ref _) rfl T.c_NoNumber rfl)) (fun _ h => h) (T.err.n 3 _ rfl) (fun c C h => ⟨T.err.c c C h, T.err.k c 3 C _ h rfl⟩) (w_e_var 1) rfl T.n_isinstance) (w_a_cons (w_e_is (fe := fun c => c == 4) (WE.mk (pe_glob (v := .ref _) rfl T.c_NoHue rfl)) (fun _ h => h) (T.err.n 4 _ rfl) (fun c C h => ⟨T.err.c c C h, T.err.k c 4 C _ h rfl⟩) (w_e_var 1) rfl T.n_isinstance) (w_a_cons (w_e_is (fe := fun c => c == 8) (WE.mk (pe_glob (v := .ref _) rfl T.c_NoClean rfl)) (fun _ h => h) (T.err.n 8 _ rfl) (fun c C h => ⟨T.err.c c C h, T.err.k c 8 C _ h rfl⟩) (w_e_var 1) rfl T.n_isinstance) w_a_nil)))))) (w_ss_cons (w_s_set (i := 2) nd_x_law_word rfl (by first | exact Or.inl rfl | exact Or.inr rfl) (w_e_op o_add (w_e_var 2) (w_e_lst (w_a_cons (w_e_is (fe := fun c => c == 9) (WE.mk (pe_glob (v := .ref _) rfl T.c_TooMany rfl)) (fun _ h => h) (T.err.n 9 _ rfl) (fun c C h => ⟨T.err.c c C h, T.err.k c 9 C _ h rfl⟩) (w_e_var 1) rfl T.n_isinstance) (w_a_cons (w_e_is (fe := fun c => c == 5) (WE.mk (pe_glob (v := .ref _) rfl T.c_NoLot rfl)) (fun _ h => h) (T.err.n 5 _ rfl) (fun c C h => ⟨T.err.c c C h, T.err.k c 5 C _ h rfl⟩) (w_e_var 1) rfl T.n_isinstance) (w_a_cons (w_e_is (fe := fun c => c == 6) (WE.mk (pe_glob (v := .ref _) rfl T.c_NoStep rfl)) (fun _ h => h) (T.err.n 6 _ rfl) (fun c C h => ⟨T.err.c c C h, T.err.k c 6 C _ h rfl⟩) (w_e_var 1) rfl T.n_isinstance) w_a_nil)))))) (w_ss_cons (w_s_set (i := 2) nd_x_law_word rfl (by first | exact Or.inl rfl | exact Or.inr rfl) (w_e_op o_add (w_e_var 2) (w_e_lst (w_a_cons (w_e_is (fe := fun c => c == 7) (WE.mk (pe_glob (v := .ref _) rfl T.c_NoPaper rfl)) (fun _ h => h) (T.err.n 7 _ rfl) (fun c C h => ⟨T.err.c c C h, T.err.k c 7 C _ h rfl⟩) (w_e_var 1) rfl T.n_isinstance) (w_a_cons (w_e_is (fe := fun c => c == 10) (WE.mk (pe_glob (v := .ref _) rfl T.c_NoText rfl)) (fun _ h => h) (T.err.n 10 _ rfl) (fun c C h => ⟨T.err.c c C h, T.err.k c 10 C _ h rfl⟩) (w_e_var 1) rfl T.n_isinstance) (w_a_cons (w_e_is (fe := fun c => c == 11) (WE.mk (pe_glob (v := .ref _) rfl T.c_NoLine rfl)) (fun _ h => h) (T.err.n 11 _ rfl) (fun c C h => ⟨T.err.c c C h, T.err.k c 11 C _ h rfl⟩) (w_e_var 1) rfl T.n_isinstance) w_a_nil)))))) (w_ss_cons (w_s_expr (w_e_m F.slot_list_append F.type_list_append mt_append (fun _ _ _ _ _ _ _ _ => app_r) (w_e_var 2) (w_a_cons (w_e_is (fe := fun c => c == 12) (WE.mk (pe_glob (v := .ref _) rfl T.c_NoDeed rfl)) (fun _ h => h) (T.err.n 12 _ rfl) (fun c C h => ⟨T.err.c c C h, T.err.k c 12 C _ h rfl⟩) (w_e_var 1) rfl T.n_isinstance) w_a_nil))) (w_ss_cons (w_s_if (w_t_cmp SX.o_isX (w_e_var 1) w_e_non (by rfl)) (w_ss_one (w_s_ret w_e_str)) w_ss_nil) (w_ss_cons (w_s_if (w_t_w (w_w_or (w_t_cmp (o_ne hr.units) (w_e_m F.slot_list_count F.type_list_count SX.mt_countB (fun _ _ _ _ _ _ _ _ => SX.cnt_r) (w_e_var 2) (w_a_cons w_e_bl w_a_nil)) w_e_int (by rfl)) (w_w_or1 (w_t_not (w_t_tru (w_e_is (fe := fun _ => true) (WE.mk (pe_bltn (v := .ty "ValueError") rfl T.n_ValueError (by decide +kernel) rfl)) (fun _ h => h) T.err.nv (fun c C h => ⟨T.err.c c C h, T.err.v c C h⟩) (w_e_var 1) rfl T.n_isinstance)))))) (w_ss_one (w_s_ret w_e_str)) w_ss_nil) (w_ss_cons (w_s_set (i := 3) nd_x_law_word rfl (by first | exact Or.inl rfl | exact Or.inr rfl) (w_e_lst (w_a_cons w_e_str (w_a_cons w_e_str (w_a_cons w_e_str (w_a_cons w_e_str (w_a_cons w_e_str (w_a_cons w_e_str (w_a_cons w_e_str (w_a_cons w_e_str (w_a_cons w_e_str (w_a_cons w_e_str (w_a_cons w_e_str (w_a_cons w_e_str (w_a_cons w_e_str w_a_nil))))))))))))))) (w_ss_one (w_s_ret (w_e_ix (w_e_var 3) (w_e_m F.slot_list_index F.type_list_index mt_index (fun _ _ _ _ _ _ _ _ => SX.ixb_r) (w_e_var 2) (w_a_cons w_e_bl w_a_nil)) (fun _ _ => rfl))))))))))))
theorem wr_x_law_word {f c : Addr} {fd : FuncData} (Fn : FunC K "_law_word" "_law_word" s_x_law_word f fd c) (hb : ∀ (s : Shared) (u : Value), BindsTo s fd ⟨[u], []⟩ [("_law_call", u)]) (T : Txt K mg) : SX.WordRun (JJ mg) cls.length P w K mg base f N_x_law_word "_law_word" (defScope s_x_law_word) (.ref c) 12 1 m_x_law_word :=
  SX.word_runW (ie := 4) Fn sc_x_law_word hb T.err rfl rfl rfl rfl rfl rfl rfl (by decide) (by decide) (by decide) rfl T.c_HueError (by decide) (by decide) (by decide) (by decide) (fun _ => rfl) (fun _ => rfl) (fun _ => rfl) (dv_x_law_word T )
theorem sc_x_is_within : FnScope N_x_is_within ["thing", "low", "high"] (defScope s_x_is_within) := ⟨rfl, rfl, rfl, nd_x_is_within, rfl, by decide +kernel, by decide +kernel⟩
theorem dv_x_is_within {f c : Addr} (T : Txt K mg) {f_x_is_whole : Addr} {d_x_is_whole : FuncData} (C_x_is_whole : SX.CalX (JJ mg) P w K mg base "is_whole" f_x_is_whole d_x_is_whole 1 ["thing"] fm_x_is_whole) (A : Around) (outer : List PySem.Env) (s : Shared) (H : Hp) (E : XK) (hr : Room 1 (A.deeper (PyProof.Rows.envOfC "is_within" (defScope s_x_is_within) s.heap.objs.size f (.ref c)))) (hx : SX.XOk (JJ mg) (cxOf (SX.CXe P w) P w K mg base N_x_is_within "is_within" (defScope s_x_is_within) f (.ref c) A outer s H E) (fun c H' => E ((JJ mg).cls c) none H')) :
    WSs (cxOf (SX.CXe P w) P w K mg base N_x_is_within "is_within" (defScope s_x_is_within) f (.ref c) A outer s H E) (defBody s_x_is_within) (tS (JJ mg) K (fun c H' => E ((JJ mg).cls c) none H') m_x_is_within) :=
  (w_ss_one (w_s_ret (w_e_and (w_e_calX hx C_x_is_whole hr (by decide) rfl (al_cons al_nil) (w_a_cons (w_e_var 0) w_a_nil)) (w_e_one (w_e_chain o_le o_le (w_e_var 1) (w_e_var 0) (w_e_var 2))))))
theorem ok_x_is_within {f c : Addr} {fd : FuncData} (Fn : FunC K "is_within" "is_within" s_x_is_within f fd c) (T : Txt K mg) {f_x_is_whole : Addr} {d_x_is_whole : FuncData} (C_x_is_whole : SX.CalX (JJ mg) P w K mg base "is_whole" f_x_is_whole d_x_is_whole 1 ["thing"] fm_x_is_whole) : FnOk P w K mg base (SX.CXe P w) 2 f fd ["thing", "low", "high"] (SX.spX (JJ mg) K 3 fm_x_is_within) :=
  SX.fn_okW Fn sc_x_is_within (dv_x_is_within T C_x_is_whole)
theorem sc_x_law_state : FnScope N_x_law_state ["_law_script", "_law_k"] (defScope s_x_law_state) := ⟨rfl, rfl, rfl, nd_x_law_state, rfl, by decide +kernel, by decide +kernel⟩
theorem dv_x_law_state {f c : Addr} (T : Txt K mg) {f_x_law_cell_at : Addr} {d_x_law_cell_at : FuncData} (C_x_law_cell_at : SX.CalX (JJ mg) P w K mg base "_law_cell_at" f_x_law_cell_at d_x_law_cell_at 1 ["_law_script", "_law_k"] fm_x_law_cell_at) (A : Around) (outer : List PySem.Env) (s : Shared) (H : Hp) (E : XK) (hr : Room 1 (A.deeper (PyProof.Rows.envOfC "_law_state" (defScope s_x_law_state) s.heap.objs.size f (.ref c)))) (hx : SX.XOk (JJ mg) (cxOf (SX.CXe P w) P w K mg base N_x_law_state "_law_state" (defScope s_x_law_state) f (.ref c) A outer s H E) (fun c H' => E ((JJ mg).cls c) none H')) :
    WSs (cxOf (SX.CXe P w) P w K mg base N_x_law_state "_law_state" (defScope s_x_law_state) f (.ref c) A outer s H E) (defBody s_x_law_state) (tS (JJ mg) K (fun c H' => E ((JJ mg).cls c) none H') m_x_law_state) :=
  (w_ss_cons (w_s_set (i := 2) nd_x_law_state rfl (by first | exact Or.inl rfl | exact Or.inr rfl) (w_e_calX hx C_x_law_cell_at hr (by decide) rfl (al_cons (al_cons al_nil)) (w_a_cons (w_e_var 0) (w_a_cons (w_e_var 1) w_a_nil)))) (w_ss_one (w_s_ret (w_e_lst (w_a_cons (w_e_callB (c_max rfl) rfl T.n_max (by decide +kernel) (w_a_cons w_e_int (w_a_cons (w_e_op o_sub (w_e_var 2) (w_e_op o_pow w_e_int w_e_int)) w_a_nil))) (w_a_cons (w_e_op o_mod (w_e_var 2) w_e_int) w_a_nil))))))
theorem ok_x_law_state {f c : Addr} {fd : FuncData} (Fn : FunC K "_law_state" "_law_state" s_x_law_state f fd c) (T : Txt K mg) {f_x_law_cell_at : Addr} {d_x_law_cell_at : FuncData} (C_x_law_cell_at : SX.CalX (JJ mg) P w K mg base "_law_cell_at" f_x_law_cell_at d_x_law_cell_at 1 ["_law_script", "_law_k"] fm_x_law_cell_at) : FnOk P w K mg base (SX.CXe P w) 2 f fd ["_law_script", "_law_k"] (SX.spX (JJ mg) K 2 fm_x_law_state) :=
  SX.fn_okW Fn sc_x_law_state (dv_x_law_state T C_x_law_cell_at)
theorem sc_x_law_row : FnScope N_x_law_row ["_law_state_here", "_law_hues", "_law_many"] (defScope s_x_law_row) := ⟨rfl, rfl, rfl, nd_x_law_row, rfl, by decide +kernel, by decide +kernel⟩
theorem dv_x_law_row {f c : Addr} (T : Txt K mg) {f_x_law_take : Addr} {d_x_law_take : FuncData} (C_x_law_take : SX.CalX (JJ mg) P w K mg base "_law_take" f_x_law_take d_x_law_take 1 ["_law_state_here", "_law_many"] fm_x_law_take) {f_x_law_fits : Addr} {d_x_law_fits : FuncData} (C_x_law_fits : SX.CalX (JJ mg) P w K mg base "_law_fits" f_x_law_fits d_x_law_fits 1 ["_law_row_here", "_law_hue", "_law_rule"] fm_x_law_fits) (A : Around) (outer : List PySem.Env) (s : Shared) (H : Hp) (E : XK) (hr : Room 1 (A.deeper (PyProof.Rows.envOfC "_law_row" (defScope s_x_law_row) s.heap.objs.size f (.ref c)))) (hx : SX.XOk (JJ mg) (cxOf (SX.CXe P w) P w K mg base N_x_law_row "_law_row" (defScope s_x_law_row) f (.ref c) A outer s H E) (fun c H' => E ((JJ mg).cls c) none H')) :
    WSs (cxOf (SX.CXe P w) P w K mg base N_x_law_row "_law_row" (defScope s_x_law_row) f (.ref c) A outer s H E) (defBody s_x_law_row) (tS (JJ mg) K (fun c H' => E ((JJ mg).cls c) none H') m_x_law_row) :=
  (w_ss_cons (w_s_asg (vs := [5, 6]) (w_e_tup (w_a_cons (w_e_calX hx C_x_law_take hr (by decide) rfl (al_cons (al_cons al_nil)) (w_a_cons (w_e_var 0) (w_a_cons w_e_int w_a_nil))) (w_a_cons (w_e_ix (w_e_lst (w_a_cons w_e_str (w_a_cons w_e_str w_a_nil))) (w_e_calX hx C_x_law_take hr (by decide) rfl (al_cons (al_cons al_nil)) (w_a_cons (w_e_var 0) (w_a_cons w_e_int w_a_nil))) (fun _ _ => rfl)) w_a_nil))) (pg_tup rfl (pgs_cons (pg_name (i := 5) nd_x_law_row rfl (by first | exact Or.inl rfl | exact Or.inr rfl)) (pgs_cons (pg_name (i := 6) nd_x_law_row rfl (by first | exact Or.inl rfl | exact Or.inr rfl)) pgs_nil))) (g_tup (gs_cons (g_name (i := 5) (by decide)) (gs_cons (g_name (i := 6) (by decide)) gs_nil)) rfl)) (w_ss_cons (w_s_set (i := 3) nd_x_law_row rfl (by first | exact Or.inl rfl | exact Or.inr rfl) (w_e_tup w_a_nil)) (w_ss_cons (w_s_for (vs := [4]) PassesOwn.leaving rfl (w_i_rng1 rfl T.n_range (w_a_cons (w_e_var 2) w_a_nil)) (pg_name (i := 4) nd_x_law_row rfl (by first | exact Or.inl rfl | exact Or.inr rfl)) (g_name (i := 4) (by decide)) (w_ss_cons (w_s_set (i := 7) nd_x_law_row rfl (by first | exact Or.inl rfl | exact Or.inr rfl) (w_e_calX hx C_x_law_take hr (by decide) rfl (al_cons (al_cons al_nil)) (w_a_cons (w_e_var 0) (w_a_cons (w_e_var 1) w_a_nil)))) (w_ss_cons (w_s_setLc (own := [("_law_j", 9)]) rfl nd_x_law_row (i := 8) rfl rfl rfl (w_i_rng1 rfl T.n_range (w_a_cons (w_e_var 1) w_a_nil)) (blk_mk (by kernel_rfl)) (g_name (i := 9) (by decide)) (fun _ _ _ _ _ => (pg_name (i := 9) nd_x_law_row rfl (by first | exact Or.inl rfl | exact Or.inr rfl))) (fun _ _ _ _ _ => w_ts_nil) (fun _ _ _ _ _ => (w_e_op o_mod (w_e_op o_add (w_e_var 7) (w_e_var 9)) (w_e_var 1)))) (w_ss_cons (w_s_if (w_t_cmp o_gt (w_e_var 5) w_e_int (by rfl)) (w_ss_one (w_s_set (i := 8) nd_x_law_row rfl (by first | exact Or.inl rfl | exact Or.inr rfl) (w_e_op o_add (w_e_lc (own := [("_law_one", 10)]) rfl nd_x_law_row (w_i_val (w_e_var 8)) (blk_mk (by kernel_rfl)) (g_name (i := 10) (by decide)) (fun _ _ _ _ _ => (pg_name (i := 10) nd_x_law_row rfl (by first | exact Or.inl rfl | exact Or.inr rfl))) (fun _ _ _ _ _ => (w_ts_one (w_t_tru (w_e_cal C_x_law_fits.cal hr (by decide) rfl (al_cons (al_cons (al_cons al_nil))) (w_a_cons (w_e_var 3) (w_a_cons (w_e_var 10) (w_a_cons (w_e_var 6) w_a_nil))))))) (fun _ _ _ _ _ => (w_e_var 10))) (w_e_lst (w_a_cons (w_e_var 7) w_a_nil))))) w_ss_nil) (w_ss_one (w_s_set (i := 3) nd_x_law_row rfl (by first | exact Or.inl rfl | exact Or.inr rfl) (w_e_op o_add (w_e_var 3) (w_e_tup (w_a_cons (w_e_ix (w_e_var 8) w_e_int (fun _ _ => rfl)) w_a_nil))))))))) (w_ss_one (w_s_ret (w_e_var 3))))))
theorem ok_x_law_row {f c : Addr} {fd : FuncData} (Fn : FunC K "_law_row" "_law_row" s_x_law_row f fd c) (T : Txt K mg) {f_x_law_take : Addr} {d_x_law_take : FuncData} (C_x_law_take : SX.CalX (JJ mg) P w K mg base "_law_take" f_x_law_take d_x_law_take 1 ["_law_state_here", "_law_many"] fm_x_law_take) {f_x_law_fits : Addr} {d_x_law_fits : FuncData} (C_x_law_fits : SX.CalX (JJ mg) P w K mg base "_law_fits" f_x_law_fits d_x_law_fits 1 ["_law_row_here", "_law_hue", "_law_rule"] fm_x_law_fits) : FnOk P w K mg base (SX.CXe P w) 2 f fd ["_law_state_here", "_law_hues", "_law_many"] (SX.spX (JJ mg) K 3 fm_x_law_row) :=
  SX.fn_okW Fn sc_x_law_row (dv_x_law_row T C_x_law_take C_x_law_fits)
theorem sc_x_law_no_hues : FnScope N_x_law_no_hues ["_law_state_here"] (defScope s_x_law_no_hues) := ⟨rfl, rfl, rfl, nd_x_law_no_hues, rfl, by decide +kernel, by decide +kernel⟩
theorem dv_x_law_no_hues {f c : Addr} (T : Txt K mg) {f_x_law_take : Addr} {d_x_law_take : FuncData} (C_x_law_take : SX.CalX (JJ mg) P w K mg base "_law_take" f_x_law_take d_x_law_take 1 ["_law_state_here", "_law_many"] fm_x_law_take) (A : Around) (outer : List PySem.Env) (s : Shared) (H : Hp) (E : XK) (hr : Room 1 (A.deeper (PyProof.Rows.envOfC "_law_no_hues" (defScope s_x_law_no_hues) s.heap.objs.size f (.ref c)))) (hx : SX.XOk (JJ mg) (cxOf (SX.CXe P w) P w K mg base N_x_law_no_hues "_law_no_hues" (defScope s_x_law_no_hues) f (.ref c) A outer s H E) (fun c H' => E ((JJ mg).cls c) none H')) :
    WSs (cxOf (SX.CXe P w) P w K mg base N_x_law_no_hues "_law_no_hues" (defScope s_x_law_no_hues) f (.ref c) A outer s H E) (defBody s_x_law_no_hues) (tS (JJ mg) K (fun c H' => E ((JJ mg).cls c) none H') m_x_law_no_hues) :=
  (w_ss_one (w_s_ret (w_e_ix (w_e_lst (w_a_cons w_e_int (w_a_cons w_e_int (w_a_cons w_e_neg (w_a_cons w_e_bl (w_a_cons w_e_non (w_a_cons w_e_str (w_a_cons (w_e_tup (w_a_cons w_e_int w_a_nil)) (w_a_cons (w_e_op o_pow w_e_int w_e_int) (w_a_cons (w_e_lst (w_a_cons w_e_int w_a_nil)) w_a_nil)))))))))) (w_e_calX hx C_x_law_take hr (by decide) rfl (al_cons (al_cons al_nil)) (w_a_cons (w_e_var 0) (w_a_cons w_e_int w_a_nil))) (fun _ _ => rfl))))
theorem ok_x_law_no_hues {f c : Addr} {fd : FuncData} (Fn : FunC K "_law_no_hues" "_law_no_hues" s_x_law_no_hues f fd c) (T : Txt K mg) {f_x_law_take : Addr} {d_x_law_take : FuncData} (C_x_law_take : SX.CalX (JJ mg) P w K mg base "_law_take" f_x_law_take d_x_law_take 1 ["_law_state_here", "_law_many"] fm_x_law_take) : FnOk P w K mg base (SX.CXe P w) 2 f fd ["_law_state_here"] (SX.spX (JJ mg) K 1 fm_x_law_no_hues) :=
  SX.fn_okW Fn sc_x_law_no_hues (dv_x_law_no_hues T C_x_law_take)
theorem sc_x_law_no_rule : FnScope N_x_law_no_rule ["_law_state_here"] (defScope s_x_law_no_rule) := ⟨rfl, rfl, rfl, nd_x_law_no_rule, rfl, by decide +kernel, by decide +kernel⟩
theorem dv_x_law_no_rule {f c : Addr} (T : Txt K mg) {f_x_law_take : Addr} {d_x_law_take : FuncData} (C_x_law_take : SX.CalX (JJ mg) P w K mg base "_law_take" f_x_law_take d_x_law_take 1 ["_law_state_here", "_law_many"] fm_x_law_take) (A : Around) (outer : List PySem.Env) (s : Shared) (H : Hp) (E : XK) (hr : Room 1 (A.deeper (PyProof.Rows.envOfC "_law_no_rule" (defScope s_x_law_no_rule) s.heap.objs.size f (.ref c)))) (hx : SX.XOk (JJ mg) (cxOf (SX.CXe P w) P w K mg base N_x_law_no_rule "_law_no_rule" (defScope s_x_law_no_rule) f (.ref c) A outer s H E) (fun c H' => E ((JJ mg).cls c) none H')) :
    WSs (cxOf (SX.CXe P w) P w K mg base N_x_law_no_rule "_law_no_rule" (defScope s_x_law_no_rule) f (.ref c) A outer s H E) (defBody s_x_law_no_rule) (tS (JJ mg) K (fun c H' => E ((JJ mg).cls c) none H') m_x_law_no_rule) :=
  (w_ss_one (w_s_ret (w_e_ix (w_e_lst (w_a_cons w_e_non (w_a_cons w_e_str (w_a_cons w_e_str (w_a_cons w_e_str (w_a_cons w_e_int (w_a_cons w_e_bl (w_a_cons (w_e_lst (w_a_cons w_e_str w_a_nil)) (w_a_cons (w_e_tup (w_a_cons w_e_str w_a_nil)) (w_a_cons w_e_str (w_a_cons w_e_str w_a_nil))))))))))) (w_e_calX hx C_x_law_take hr (by decide) rfl (al_cons (al_cons al_nil)) (w_a_cons (w_e_var 0) (w_a_cons w_e_int w_a_nil))) (fun _ _ => rfl))))
theorem ok_x_law_no_rule {f c : Addr} {fd : FuncData} (Fn : FunC K "_law_no_rule" "_law_no_rule" s_x_law_no_rule f fd c) (T : Txt K mg) {f_x_law_take : Addr} {d_x_law_take : FuncData} (C_x_law_take : SX.CalX (JJ mg) P w K mg base "_law_take" f_x_law_take d_x_law_take 1 ["_law_state_here", "_law_many"] fm_x_law_take) : FnOk P w K mg base (SX.CXe P w) 2 f fd ["_law_state_here"] (SX.spX (JJ mg) K 1 fm_x_law_no_rule) :=
  SX.fn_okW Fn sc_x_law_no_rule (dv_x_law_no_rule T C_x_law_take)
theorem sc_x_is_hue : FnScope N_x_is_hue ["hues", "thing"] (defScope s_x_is_hue) := ⟨rfl, rfl, rfl, nd_x_is_hue, rfl, by decide +kernel, by decide +kernel⟩
theorem dv_x_is_hue {f c : Addr} (T : Txt K mg) {f_x_is_within : Addr} {d_x_is_within : FuncData} (C_x_is_within : SX.CalX (JJ mg) P w K mg base "is_within" f_x_is_within d_x_is_within 2 ["thing", "low", "high"] fm_x_is_within) (A : Around) (outer : List PySem.Env) (s : Shared) (H : Hp) (E : XK) (hr : Room 2 (A.deeper (PyProof.Rows.envOfC "is_hue" (defScope s_x_is_hue) s.heap.objs.size f (.ref c)))) (hx : SX.XOk (JJ mg) (cxOf (SX.CXe P w) P w K mg base N_x_is_hue "is_hue" (defScope s_x_is_hue) f (.ref c) A outer s H E) (fun c H' => E ((JJ mg).cls c) none H')) :
    WSs (cxOf (SX.CXe P w) P w K mg base N_x_is_hue "is_hue" (defScope s_x_is_hue) f (.ref c) A outer s H E) (defBody s_x_is_hue) (tS (JJ mg) K (fun c H' => E ((JJ mg).cls c) none H') m_x_is_hue) :=
  (w_ss_one (w_s_ret (w_e_calX hx C_x_is_within hr (by decide) rfl (al_cons (al_cons (al_cons al_nil))) (w_a_cons (w_e_var 1) (w_a_cons w_e_int (w_a_cons (w_e_op o_sub (w_e_var 0) w_e_int) w_a_nil))))))
theorem ok_x_is_hue {f c : Addr} {fd : FuncData} (Fn : FunC K "is_hue" "is_hue" s_x_is_hue f fd c) (T : Txt K mg) {f_x_is_within : Addr} {d_x_is_within : FuncData} (C_x_is_within : SX.CalX (JJ mg) P w K mg base "is_within" f_x_is_within d_x_is_within 2 ["thing", "low", "high"] fm_x_is_within) : FnOk P w K mg base (SX.CXe P w) 3 f fd ["hues", "thing"] (SX.spX (JJ mg) K 2 fm_x_is_hue) :=
  SX.fn_okW Fn sc_x_is_hue (dv_x_is_hue T C_x_is_within)
theorem sc_x_check_hues : FnScope N_x_check_hues ["hues"] (defScope s_x_check_hues) := ⟨rfl, rfl, rfl, nd_x_check_hues, rfl, by decide +kernel, by decide +kernel⟩
theorem dv_x_check_hues {f c : Addr} (T : Txt K mg) {f_x_is_within : Addr} {d_x_is_within : FuncData} (C_x_is_within : SX.CalX (JJ mg) P w K mg base "is_within" f_x_is_within d_x_is_within 2 ["thing", "low", "high"] fm_x_is_within) (A : Around) (outer : List PySem.Env) (s : Shared) (H : Hp) (E : XK) (hr : Room 2 (A.deeper (PyProof.Rows.envOfC "check_hues" (defScope s_x_check_hues) s.heap.objs.size f (.ref c)))) (hx : SX.XOk (JJ mg) (cxOf (SX.CXe P w) P w K mg base N_x_check_hues "check_hues" (defScope s_x_check_hues) f (.ref c) A outer s H E) (fun c H' => E ((JJ mg).cls c) none H')) :
    WSs (cxOf (SX.CXe P w) P w K mg base N_x_check_hues "check_hues" (defScope s_x_check_hues) f (.ref c) A outer s H E) (defBody s_x_check_hues) (tS (JJ mg) K (fun c H' => E ((JJ mg).cls c) none H') m_x_check_hues) :=
  (w_ss_one (w_s_if (w_t_not (w_t_tru (w_e_calX hx C_x_is_within hr (by decide) rfl (al_cons (al_cons (al_cons al_nil))) (w_a_cons (w_e_var 0) (w_a_cons w_e_int (w_a_cons (T.g_MOST_HUES rfl rfl rfl) w_a_nil)))))) (w_ss_one (w_s_raise hx rfl (T.err.c 0 _ rfl).ex rfl T.c_NoHues (w_a_cons w_e_str w_a_nil) (fun ρ S ds S1 h => Nat.le_trans (Nat.le_of_eq ((al_cons al_nil) ρ S ds S1 h)) (by decide)))) w_ss_nil))
theorem ok_x_check_hues {f c : Addr} {fd : FuncData} (Fn : FunC K "check_hues" "check_hues" s_x_check_hues f fd c) (T : Txt K mg) {f_x_is_within : Addr} {d_x_is_within : FuncData} (C_x_is_within : SX.CalX (JJ mg) P w K mg base "is_within" f_x_is_within d_x_is_within 2 ["thing", "low", "high"] fm_x_is_within) : FnOk P w K mg base (SX.CXe P w) 3 f fd ["hues"] (SX.spX (JJ mg) K 1 fm_x_check_hues) :=
  SX.fn_okW Fn sc_x_check_hues (dv_x_check_hues T C_x_is_within)
theorem sc_x_law_no_row : FnScope N_x_law_no_row ["_law_state_here", "_law_hues"] (defScope s_x_law_no_row) := ⟨rfl, rfl, rfl, nd_x_law_no_row, rfl, by decide +kernel, by decide +kernel⟩
theorem dv_x_law_no_row {f c : Addr} (T : Txt K mg) {f_x_law_take : Addr} {d_x_law_take : FuncData} (C_x_law_take : SX.CalX (JJ mg) P w K mg base "_law_take" f_x_law_take d_x_law_take 1 ["_law_state_here", "_law_many"] fm_x_law_take) {f_x_law_row : Addr} {d_x_law_row : FuncData} (C_x_law_row : SX.CalX (JJ mg) P w K mg base "_law_row" f_x_law_row d_x_law_row 2 ["_law_state_here", "_law_hues", "_law_many"] fm_x_law_row) (A : Around) (outer : List PySem.Env) (s : Shared) (H : Hp) (E : XK) (hr : Room 2 (A.deeper (PyProof.Rows.envOfC "_law_no_row" (defScope s_x_law_no_row) s.heap.objs.size f (.ref c)))) (hx : SX.XOk (JJ mg) (cxOf (SX.CXe P w) P w K mg base N_x_law_no_row "_law_no_row" (defScope s_x_law_no_row) f (.ref c) A outer s H E) (fun c H' => E ((JJ mg).cls c) none H')) :
    WSs (cxOf (SX.CXe P w) P w K mg base N_x_law_no_row "_law_no_row" (defScope s_x_law_no_row) f (.ref c) A outer s H E) (defBody s_x_law_no_row) (tS (JJ mg) K (fun c H' => E ((JJ mg).cls c) none H') m_x_law_no_row) :=
  (w_ss_cons (w_s_set (i := 2) nd_x_law_no_row rfl (by first | exact Or.inl rfl | exact Or.inr rfl) (w_e_calX hx C_x_law_row hr (by decide) rfl (al_cons (al_cons (al_cons al_nil))) (w_a_cons (w_e_var 0) (w_a_cons (w_e_var 1) (w_a_cons (w_e_calX hx C_x_law_take hr (by decide) rfl (al_cons (al_cons al_nil)) (w_a_cons (w_e_var 0) (w_a_cons w_e_int w_a_nil))) w_a_nil))))) (w_ss_cons (w_s_set (i := 3) nd_x_law_no_row rfl (by first | exact Or.inl rfl | exact Or.inr rfl) (w_e_ix (w_e_lst (w_a_cons w_e_non (w_a_cons (w_e_var 1) (w_a_cons w_e_neg (w_a_cons w_e_bl (w_a_cons w_e_str (w_a_cons (w_e_tup (w_a_cons w_e_int w_a_nil)) (w_a_cons (w_e_op o_pow w_e_int w_e_int) (w_a_cons (w_e_lst (w_a_cons w_e_int w_a_nil)) w_a_nil))))))))) (w_e_calX hx C_x_law_take hr (by decide) rfl (al_cons (al_cons al_nil)) (w_a_cons (w_e_var 0) (w_a_cons w_e_int w_a_nil))) (fun _ _ => rfl))) (w_ss_cons (w_s_set (i := 4) nd_x_law_no_row rfl (by first | exact Or.inl rfl | exact Or.inr rfl) (w_e_calX hx C_x_law_take hr (by decide) rfl (al_cons (al_cons al_nil)) (w_a_cons (w_e_var 0) (w_a_cons (w_e_op o_add (w_e_callB c_len rfl T.n_len (by decide +kernel) (w_a_cons (w_e_var 2) w_a_nil)) w_e_int) w_a_nil)))) (w_ss_cons (w_s_set (i := 5) nd_x_law_no_row rfl (by first | exact Or.inl rfl | exact Or.inr rfl) (w_e_lst (w_a_cons (w_e_op o_add (w_e_op o_add (w_e_sl (w_e_var 2) w_p_none (w_p_some (w_e_var 4))) (w_e_tup (w_a_cons (w_e_var 3) w_a_nil))) (w_e_sl (w_e_var 2) (w_p_some (w_e_op o_add (w_e_var 4) w_e_int)) w_p_none)) (w_a_cons (w_e_callTy c_lst rfl T.n_list (by decide +kernel) (w_a_cons (w_e_var 2) w_a_nil)) (w_a_cons w_e_non (w_a_cons (w_e_op o_mul (w_e_tup (w_a_cons w_e_int w_a_nil)) w_e_int) (w_a_cons w_e_str (w_a_cons w_e_dnew (w_a_cons w_e_int w_a_nil))))))))) (w_ss_one (w_s_ret (w_e_ix (w_e_var 5) (w_e_ix (w_e_lst (w_a_cons w_e_int (w_a_cons w_e_int (w_a_cons w_e_int (w_a_cons (w_e_op o_add w_e_int (w_e_calX hx C_x_law_take hr (by decide) rfl (al_cons (al_cons al_nil)) (w_a_cons (w_e_var 0) (w_a_cons w_e_int w_a_nil)))) w_a_nil))))) (w_e_calX hx C_x_law_take hr (by decide) rfl (al_cons (al_cons al_nil)) (w_a_cons (w_e_var 0) (w_a_cons w_e_int w_a_nil))) (fun _ _ => rfl)) (fun _ _ => rfl))))))))
theorem ok_x_law_no_row {f c : Addr} {fd : FuncData} (Fn : FunC K "_law_no_row" "_law_no_row" s_x_law_no_row f fd c) (T : Txt K mg) {f_x_law_take : Addr} {d_x_law_take : FuncData} (C_x_law_take : SX.CalX (JJ mg) P w K mg base "_law_take" f_x_law_take d_x_law_take 1 ["_law_state_here", "_law_many"] fm_x_law_take) {f_x_law_row : Addr} {d_x_law_row : FuncData} (C_x_law_row : SX.CalX (JJ mg) P w K mg base "_law_row" f_x_law_row d_x_law_row 2 ["_law_state_here", "_law_hues", "_law_many"] fm_x_law_row) : FnOk P w K mg base (SX.CXe P w) 3 f fd ["_law_state_here", "_law_hues"] (SX.spX (JJ mg) K 2 fm_x_law_no_row) :=
  SX.fn_okW Fn sc_x_law_no_row (dv_x_law_no_row T C_x_law_take C_x_law_row)
theorem sc_x_is_half_row : FnScope N_x_is_half_row ["hues", "thing"] (defScope s_x_is_half_row) := ⟨rfl, rfl, rfl, nd_x_is_half_row, rfl, by decide +kernel, by decide +kernel⟩
theorem dv_x_is_half_row {f c : Addr} (T : Txt K mg) {f_x_is_hue : Addr} {d_x_is_hue : FuncData} (C_x_is_hue : SX.CalX (JJ mg) P w K mg base "is_hue" f_x_is_hue d_x_is_hue 3 ["hues", "thing"] fm_x_is_hue) {Pt : Addr} (hcd : SG.CodeHd base c Pt) (hP : Pt ∈ tabs.map (·.2)) (hbm : SG.Bm base mg) (hfp : lq.lookup Pt = none) (A : Around) (outer : List PySem.Env) (s : Shared) (H : Hp) (E : XK) (hr : Room 4 (A.deeper (PyProof.Rows.envOfC "is_half_row" (defScope s_x_is_half_row) s.heap.objs.size f (.ref c)))) (hx : SX.XOk (JJ mg) (cxOf (SX.CXe P w) P w K mg base N_x_is_half_row "is_half_row" (defScope s_x_is_half_row) f (.ref c) A outer s H E) (fun c H' => E ((JJ mg).cls c) none H')) :
    WSs (cxOf (SX.CXe P w) P w K mg base N_x_is_half_row "is_half_row" (defScope s_x_is_half_row) f (.ref c) A outer s H E) (defBody s_x_is_half_row) (tS (JJ mg) K (fun c H' => E ((JJ mg).cls c) none H') m_x_is_half_row) :=
  (w_ss_cons (w_s_if (w_t_w (w_w_or (w_t_not (w_t_tru (w_e_callB c_isi rfl T.n_isinstance (by decide +kernel) (w_a_cons (w_e_var 1) (w_a_cons (w_e_ty rfl T.n_tuple (by decide +kernel)) w_a_nil))))) (w_w_or1 (w_t_cmp o_gt (w_e_callB c_len rfl T.n_len (by decide +kernel) (w_a_cons (w_e_var 1) w_a_nil)) (T.g_MOST_NUMBERS rfl rfl rfl) (by rfl))))) (w_ss_one (w_s_ret w_e_bl)) w_ss_nil) (w_ss_one (w_s_ret (w_e_all (own := [("part", 2)]) rfl nd_x_is_half_row hr (w_i_val (w_e_var 1)) (blk_mk (by kernel_rfl)) (by decide +kernel) rfl rfl rfl hcd hP hfp hbm rfl T.n_all (g_name (i := 2) (by decide)) (fun _ _ _ _ _ _ _ _ => (pg_name (i := 2) nd_x_is_half_row rfl (by first | exact Or.inl rfl | exact Or.inr rfl))) (fun _ _ _ _ _ _ _ _ => w_ts_nil) (fun _ _ _ _ _ _ _ _ => (w_e_or (w_e_cmp o_is (w_e_var 2) w_e_non (by rfl)) (w_e_one (w_e_cal C_x_is_hue.cal (room_all hr) (by decide) rfl (al_cons (al_cons al_nil)) (w_a_cons (w_e_var 0) (w_a_cons (w_e_var 2) w_a_nil))))))))))
theorem ok_x_is_half_row {f c : Addr} {fd : FuncData} (Fn : FunC K "is_half_row" "is_half_row" s_x_is_half_row f fd c) (T : Txt K mg) {f_x_is_hue : Addr} {d_x_is_hue : FuncData} (C_x_is_hue : SX.CalX (JJ mg) P w K mg base "is_hue" f_x_is_hue d_x_is_hue 3 ["hues", "thing"] fm_x_is_hue) {Pt : Addr} (hcd : SG.CodeHd base c Pt) (hP : Pt ∈ tabs.map (·.2)) (hbm : SG.Bm base mg) (hfp : lq.lookup Pt = none) : FnOk P w K mg base (SX.CXe P w) 5 f fd ["hues", "thing"] (SX.spX (JJ mg) K 2 fm_x_is_half_row) :=
  SX.fn_okW Fn sc_x_is_half_row (dv_x_is_half_row T C_x_is_hue hcd hP hbm hfp)
theorem sc_x_is_full_row : FnScope N_x_is_full_row ["hues", "thing"] (defScope s_x_is_full_row) := ⟨rfl, rfl, rfl, nd_x_is_full_row, rfl, by decide +kernel, by decide +kernel⟩
theorem dv_x_is_full_row {f c : Addr} (T : Txt K mg) {f_x_is_half_row : Addr} {d_x_is_half_row : FuncData} (C_x_is_half_row : SX.CalX (JJ mg) P w K mg base "is_half_row" f_x_is_half_row d_x_is_half_row 5 ["hues", "thing"] fm_x_is_half_row) (A : Around) (outer : List PySem.Env) (s : Shared) (H : Hp) (E : XK) (hr : Room 5 (A.deeper (PyProof.Rows.envOfC "is_full_row" (defScope s_x_is_full_row) s.heap.objs.size f (.ref c)))) (hx : SX.XOk (JJ mg) (cxOf (SX.CXe P w) P w K mg base N_x_is_full_row "is_full_row" (defScope s_x_is_full_row) f (.ref c) A outer s H E) (fun c H' => E ((JJ mg).cls c) none H')) :
    WSs (cxOf (SX.CXe P w) P w K mg base N_x_is_full_row "is_full_row" (defScope s_x_is_full_row) f (.ref c) A outer s H E) (defBody s_x_is_full_row) (tS (JJ mg) K (fun c H' => E ((JJ mg).cls c) none H') m_x_is_full_row) :=
  (w_ss_one (w_s_ret (w_e_and (w_e_calX hx C_x_is_half_row hr (by decide) rfl (al_cons (al_cons al_nil)) (w_a_cons (w_e_var 0) (w_a_cons (w_e_var 1) w_a_nil))) (w_e_one (w_e_cmp (o_notin hr.u65) w_e_non (w_e_var 1) (by rfl))))))
theorem ok_x_is_full_row {f c : Addr} {fd : FuncData} (Fn : FunC K "is_full_row" "is_full_row" s_x_is_full_row f fd c) (T : Txt K mg) {f_x_is_half_row : Addr} {d_x_is_half_row : FuncData} (C_x_is_half_row : SX.CalX (JJ mg) P w K mg base "is_half_row" f_x_is_half_row d_x_is_half_row 5 ["hues", "thing"] fm_x_is_half_row) : FnOk P w K mg base (SX.CXe P w) 6 f fd ["hues", "thing"] (SX.spX (JJ mg) K 2 fm_x_is_full_row) :=
  SX.fn_okW Fn sc_x_is_full_row (dv_x_is_full_row T C_x_is_half_row)
theorem sc_x_check_row : FnScope N_x_check_row ["hues", "row"] (defScope s_x_check_row) := ⟨rfl, rfl, rfl, nd_x_check_row, rfl, by decide +kernel, by decide +kernel⟩
theorem dv_x_check_row {f c : Addr} (T : Txt K mg) {f_x_is_full_row : Addr} {d_x_is_full_row : FuncData} (C_x_is_full_row : SX.CalX (JJ mg) P w K mg base "is_full_row" f_x_is_full_row d_x_is_full_row 6 ["hues", "thing"] fm_x_is_full_row) (A : Around) (outer : List PySem.Env) (s : Shared) (H : Hp) (E : XK) (hr : Room 6 (A.deeper (PyProof.Rows.envOfC "check_row" (defScope s_x_check_row) s.heap.objs.size f (.ref c)))) (hx : SX.XOk (JJ mg) (cxOf (SX.CXe P w) P w K mg base N_x_check_row "check_row" (defScope s_x_check_row) f (.ref c) A outer s H E) (fun c H' => E ((JJ mg).cls c) none H')) :
    WSs (cxOf (SX.CXe P w) P w K mg base N_x_check_row "check_row" (defScope s_x_check_row) f (.ref c) A outer s H E) (defBody s_x_check_row) (tS (JJ mg) K (fun c H' => E ((JJ mg).cls c) none H') m_x_check_row) :=
  (w_ss_one (w_s_if (w_t_not (w_t_tru (w_e_calX hx C_x_is_full_row hr (by decide) rfl (al_cons (al_cons al_nil)) (w_a_cons (w_e_var 0) (w_a_cons (w_e_var 1) w_a_nil))))) (w_ss_one (w_s_raise hx rfl (T.err.c 1 _ rfl).ex rfl T.c_NoRow (w_a_cons w_e_str w_a_nil) (fun ρ S ds S1 h => Nat.le_trans (Nat.le_of_eq ((al_cons al_nil) ρ S ds S1 h)) (by decide)))) w_ss_nil))
theorem ok_x_check_row {f c : Addr} {fd : FuncData} (Fn : FunC K "check_row" "check_row" s_x_check_row f fd c) (T : Txt K mg) {f_x_is_full_row : Addr} {d_x_is_full_row : FuncData} (C_x_is_full_row : SX.CalX (JJ mg) P w K mg base "is_full_row" f_x_is_full_row d_x_is_full_row 6 ["hues", "thing"] fm_x_is_full_row) : FnOk P w K mg base (SX.CXe P w) 7 f fd ["hues", "row"] (SX.spX (JJ mg) K 2 fm_x_check_row) :=
  SX.fn_okW Fn sc_x_check_row (dv_x_check_row T C_x_is_full_row)
theorem sc_x_check_ruled_row : FnScope N_x_check_ruled_row ["hues", "row", "rule"] (defScope s_x_check_ruled_row) := ⟨rfl, rfl, rfl, nd_x_check_ruled_row, rfl, by decide +kernel, by decide +kernel⟩
theorem dv_x_check_ruled_row {f c : Addr} (T : Txt K mg) {f_x_check_hues : Addr} {d_x_check_hues : FuncData} (C_x_check_hues : SX.CalX (JJ mg) P w K mg base "check_hues" f_x_check_hues d_x_check_hues 3 ["hues"] fm_x_check_hues) {f_x_check_row : Addr} {d_x_check_row : FuncData} (C_x_check_row : SX.CalX (JJ mg) P w K mg base "check_row" f_x_check_row d_x_check_row 7 ["hues", "row"] fm_x_check_row) {f_x_check_rule : Addr} {d_x_check_rule : FuncData} (C_x_check_rule : SX.CalX (JJ mg) P w K mg base "check_rule" f_x_check_rule d_x_check_rule 1 ["rule"] fm_x_check_rule) (A : Around) (outer : List PySem.Env) (s : Shared) (H : Hp) (E : XK) (hr : Room 7 (A.deeper (PyProof.Rows.envOfC "check_ruled_row" (defScope s_x_check_ruled_row) s.heap.objs.size f (.ref c)))) (hx : SX.XOk (JJ mg) (cxOf (SX.CXe P w) P w K mg base N_x_check_ruled_row "check_ruled_row" (defScope s_x_check_ruled_row) f (.ref c) A outer s H E) (fun c H' => E ((JJ mg).cls c) none H')) :
    WSs (cxOf (SX.CXe P w) P w K mg base N_x_check_ruled_row "check_ruled_row" (defScope s_x_check_ruled_row) f (.ref c) A outer s H E) (defBody s_x_check_ruled_row) (tS (JJ mg) K (fun c H' => E ((JJ mg).cls c) none H') m_x_check_ruled_row) :=
  (w_ss_cons (w_s_expr (w_e_calX hx C_x_check_hues hr (by decide) rfl (al_cons al_nil) (w_a_cons (w_e_var 0) w_a_nil))) (w_ss_cons (w_s_expr (w_e_calX hx C_x_check_row hr (by decide) rfl (al_cons (al_cons al_nil)) (w_a_cons (w_e_var 0) (w_a_cons (w_e_var 1) w_a_nil)))) (w_ss_one (w_s_expr (w_e_calX hx C_x_check_rule hr (by decide) rfl (al_cons al_nil) (w_a_cons (w_e_var 2) w_a_nil))))))
theorem ok_x_check_ruled_row {f c : Addr} {fd : FuncData} (Fn : FunC K "check_ruled_row" "check_ruled_row" s_x_check_ruled_row f fd c) (T : Txt K mg) {f_x_check_hues : Addr} {d_x_check_hues : FuncData} (C_x_check_hues : SX.CalX (JJ mg) P w K mg base "check_hues" f_x_check_hues d_x_check_hues 3 ["hues"] fm_x_check_hues) {f_x_check_row : Addr} {d_x_check_row : FuncData} (C_x_check_row : SX.CalX (JJ mg) P w K mg base "check_row" f_x_check_row d_x_check_row 7 ["hues", "row"] fm_x_check_row) {f_x_check_rule : Addr} {d_x_check_rule : FuncData} (C_x_check_rule : SX.CalX (JJ mg) P w K mg base "check_rule" f_x_check_rule d_x_check_rule 1 ["rule"] fm_x_check_rule) : FnOk P w K mg base (SX.CXe P w) 8 f fd ["hues", "row", "rule"] (SX.spX (JJ mg) K 3 fm_x_check_ruled_row) :=
  SX.fn_okW Fn sc_x_check_ruled_row (dv_x_check_ruled_row T C_x_check_hues C_x_check_row C_x_check_rule)
theorem sc_x_check_row_of : FnScope N_x_check_row_of ["hues", "row"] (defScope s_x_check_row_of) := ⟨rfl, rfl, rfl, nd_x_check_row_of, rfl, by decide +kernel, by decide +kernel⟩
theorem dv_x_check_row_of {f c : Addr} (T : Txt K mg) {f_x_check_hues : Addr} {d_x_check_hues : FuncData} (C_x_check_hues : SX.CalX (JJ mg) P w K mg base "check_hues" f_x_check_hues d_x_check_hues 3 ["hues"] fm_x_check_hues) {f_x_check_row : Addr} {d_x_check_row : FuncData} (C_x_check_row : SX.CalX (JJ mg) P w K mg base "check_row" f_x_check_row d_x_check_row 7 ["hues", "row"] fm_x_check_row) (A : Around) (outer : List PySem.Env) (s : Shared) (H : Hp) (E : XK) (hr : Room 7 (A.deeper (PyProof.Rows.envOfC "check_row_of" (defScope s_x_check_row_of) s.heap.objs.size f (.ref c)))) (hx : SX.XOk (JJ mg) (cxOf (SX.CXe P w) P w K mg base N_x_check_row_of "check_row_of" (defScope s_x_check_row_of) f (.ref c) A outer s H E) (fun c H' => E ((JJ mg).cls c) none H')) :
    WSs (cxOf (SX.CXe P w) P w K mg base N_x_check_row_of "check_row_of" (defScope s_x_check_row_of) f (.ref c) A outer s H E) (defBody s_x_check_row_of) (tS (JJ mg) K (fun c H' => E ((JJ mg).cls c) none H') m_x_check_row_of) :=
  (w_ss_cons (w_s_expr (w_e_calX hx C_x_check_hues hr (by decide) rfl (al_cons al_nil) (w_a_cons (w_e_var 0) w_a_nil))) (w_ss_one (w_s_expr (w_e_calX hx C_x_check_row hr (by decide) rfl (al_cons (al_cons al_nil)) (w_a_cons (w_e_var 0) (w_a_cons (w_e_var 1) w_a_nil))))))
theorem ok_x_check_row_of {f c : Addr} {fd : FuncData} (Fn : FunC K "check_row_of" "check_row_of" s_x_check_row_of f fd c) (T : Txt K mg) {f_x_check_hues : Addr} {d_x_check_hues : FuncData} (C_x_check_hues : SX.CalX (JJ mg) P w K mg base "check_hues" f_x_check_hues d_x_check_hues 3 ["hues"] fm_x_check_hues) {f_x_check_row : Addr} {d_x_check_row : FuncData} (C_x_check_row : SX.CalX (JJ mg) P w K mg base "check_row" f_x_check_row d_x_check_row 7 ["hues", "row"] fm_x_check_row) : FnOk P w K mg base (SX.CXe P w) 8 f fd ["hues", "row"] (SX.spX (JJ mg) K 2 fm_x_check_row_of) :=
  SX.fn_okW Fn sc_x_check_row_of (dv_x_check_row_of T C_x_check_hues C_x_check_row)
theorem sc_x_laid : FnScope N_x_laid ["one", "row", "other", "more"] (defScope s_x_laid) := ⟨rfl, rfl, rfl, nd_x_laid, rfl, by decide +kernel, by decide +kernel⟩
theorem dv_x_laid {f c : Addr} (T : Txt K mg) {f_x_width_of : Addr} {d_x_width_of : FuncData} (C_x_width_of : SX.CalX (JJ mg) P w K mg base "width_of" f_x_width_of d_x_width_of 1 ["row"] fm_x_width_of) {f_x_check_row_of : Addr} {d_x_check_row_of : FuncData} (C_x_check_row_of : SX.CalX (JJ mg) P w K mg base "check_row_of" f_x_check_row_of d_x_check_row_of 8 ["hues", "row"] fm_x_check_row_of) (A : Around) (outer : List PySem.Env) (s : Shared) (H : Hp) (E : XK) (hr : Room 8 (A.deeper (PyProof.Rows.envOfC "laid" (defScope s_x_laid) s.heap.objs.size f (.ref c)))) (hx : SX.XOk (JJ mg) (cxOf (SX.CXe P w) P w K mg base N_x_laid "laid" (defScope s_x_laid) f (.ref c) A outer s H E) (fun c H' => E ((JJ mg).cls c) none H')) :
    WSs (cxOf (SX.CXe P w) P w K mg base N_x_laid "laid" (defScope s_x_laid) f (.ref c) A outer s H E) (defBody s_x_laid) (tS (JJ mg) K (fun c H' => E ((JJ mg).cls c) none H') m_x_laid) :=
  (w_ss_cons (w_s_expr (w_e_calX hx C_x_check_row_of hr (by decide) rfl (al_cons (al_cons al_nil)) (w_a_cons (w_e_var 0) (w_a_cons (w_e_var 1) w_a_nil)))) (w_ss_cons (w_s_expr (w_e_calX hx C_x_check_row_of hr (by decide) rfl (al_cons (al_cons al_nil)) (w_a_cons (w_e_var 2) (w_a_cons (w_e_var 3) w_a_nil)))) (w_ss_cons (w_s_set (i := 4) nd_x_laid rfl (by first | exact Or.inl rfl | exact Or.inr rfl) (w_e_op o_add (w_e_callB c_len rfl T.n_len (by decide +kernel) (w_a_cons (w_e_var 1) w_a_nil)) (w_e_op o_mul (w_e_callB c_len rfl T.n_len (by decide +kernel) (w_a_cons (w_e_var 3) w_a_nil)) (w_e_calX hx C_x_width_of hr (by decide) rfl (al_cons al_nil) (w_a_cons (w_e_var 1) w_a_nil))))) (w_ss_cons (w_s_if (w_t_w (w_w_or (w_t_cmp o_gt (w_e_op o_add (w_e_var 0) (w_e_var 2)) (T.g_MOST_HUES rfl rfl rfl) (by rfl)) (w_w_or1 (w_t_cmp o_gt (w_e_var 4) (T.g_MOST_NUMBERS rfl rfl rfl) (by rfl))))) (w_ss_one (w_s_raise hx rfl (T.err.c 9 _ rfl).ex rfl T.c_TooMany (w_a_cons w_e_str w_a_nil) (fun ρ S ds S1 h => Nat.le_trans (Nat.le_of_eq ((al_cons al_nil) ρ S ds S1 h)) (by decide)))) w_ss_nil) w_ss_never))))
theorem ok_x_laid {f c : Addr} {fd : FuncData} (Fn : FunC K "laid" "laid" s_x_laid f fd c) (T : Txt K mg) {f_x_width_of : Addr} {d_x_width_of : FuncData} (C_x_width_of : SX.CalX (JJ mg) P w K mg base "width_of" f_x_width_of d_x_width_of 1 ["row"] fm_x_width_of) {f_x_check_row_of : Addr} {d_x_check_row_of : FuncData} (C_x_check_row_of : SX.CalX (JJ mg) P w K mg base "check_row_of" f_x_check_row_of d_x_check_row_of 8 ["hues", "row"] fm_x_check_row_of) : FnOk P w K mg base (SX.CXe P w) 9 f fd ["one", "row", "other", "more"] (SX.spX (JJ mg) K 4 fm_x_laid) :=
  SX.fn_okW Fn sc_x_laid (dv_x_laid T C_x_width_of C_x_check_row_of)
theorem sc_x_mirrored : FnScope N_x_mirrored ["hues", "row"] (defScope s_x_mirrored) := ⟨rfl, rfl, rfl, nd_x_mirrored, rfl, by decide +kernel, by decide +kernel⟩
theorem dv_x_mirrored {f c : Addr} (T : Txt K mg) {f_x_check_row_of : Addr} {d_x_check_row_of : FuncData} (C_x_check_row_of : SX.CalX (JJ mg) P w K mg base "check_row_of" f_x_check_row_of d_x_check_row_of 8 ["hues", "row"] fm_x_check_row_of) (A : Around) (outer : List PySem.Env) (s : Shared) (H : Hp) (E : XK) (hr : Room 8 (A.deeper (PyProof.Rows.envOfC "mirrored" (defScope s_x_mirrored) s.heap.objs.size f (.ref c)))) (hx : SX.XOk (JJ mg) (cxOf (SX.CXe P w) P w K mg base N_x_mirrored "mirrored" (defScope s_x_mirrored) f (.ref c) A outer s H E) (fun c H' => E ((JJ mg).cls c) none H')) :
    WSs (cxOf (SX.CXe P w) P w K mg base N_x_mirrored "mirrored" (defScope s_x_mirrored) f (.ref c) A outer s H E) (defBody s_x_mirrored) (tS (JJ mg) K (fun c H' => E ((JJ mg).cls c) none H') m_x_mirrored) :=
  (w_ss_cons (w_s_expr (w_e_calX hx C_x_check_row_of hr (by decide) rfl (al_cons (al_cons al_nil)) (w_a_cons (w_e_var 0) (w_a_cons (w_e_var 1) w_a_nil)))) w_ss_never)
theorem ok_x_mirrored {f c : Addr} {fd : FuncData} (Fn : FunC K "mirrored" "mirrored" s_x_mirrored f fd c) (T : Txt K mg) {f_x_check_row_of : Addr} {d_x_check_row_of : FuncData} (C_x_check_row_of : SX.CalX (JJ mg) P w K mg base "check_row_of" f_x_check_row_of d_x_check_row_of 8 ["hues", "row"] fm_x_check_row_of) : FnOk P w K mg base (SX.CXe P w) 9 f fd ["hues", "row"] (SX.spX (JJ mg) K 2 fm_x_mirrored) :=
  SX.fn_okW Fn sc_x_mirrored (dv_x_mirrored T C_x_check_row_of)
theorem sc_x_round_clashes : FnScope N_x_round_clashes ["hues", "row", "rule"] (defScope s_x_round_clashes) := ⟨rfl, rfl, rfl, nd_x_round_clashes, rfl, by decide +kernel, by decide +kernel⟩
theorem dv_x_round_clashes {f c : Addr} (T : Txt K mg) {f_x_check_ruled_row : Addr} {d_x_check_ruled_row : FuncData} (C_x_check_ruled_row : SX.CalX (JJ mg) P w K mg base "check_ruled_row" f_x_check_ruled_row d_x_check_ruled_row 8 ["hues", "row", "rule"] fm_x_check_ruled_row) (A : Around) (outer : List PySem.Env) (s : Shared) (H : Hp) (E : XK) (hr : Room 8 (A.deeper (PyProof.Rows.envOfC "round_clashes" (defScope s_x_round_clashes) s.heap.objs.size f (.ref c)))) (hx : SX.XOk (JJ mg) (cxOf (SX.CXe P w) P w K mg base N_x_round_clashes "round_clashes" (defScope s_x_round_clashes) f (.ref c) A outer s H E) (fun c H' => E ((JJ mg).cls c) none H')) :
    WSs (cxOf (SX.CXe P w) P w K mg base N_x_round_clashes "round_clashes" (defScope s_x_round_clashes) f (.ref c) A outer s H E) (defBody s_x_round_clashes) (tS (JJ mg) K (fun c H' => E ((JJ mg).cls c) none H') m_x_round_clashes) :=
  (w_ss_cons (w_s_expr (w_e_calX hx C_x_check_ruled_row hr (by decide) rfl (al_cons (al_cons (al_cons al_nil))) (w_a_cons (w_e_var 0) (w_a_cons (w_e_var 1) (w_a_cons (w_e_var 2) w_a_nil))))) w_ss_never)
theorem ok_x_round_clashes {f c : Addr} {fd : FuncData} (Fn : FunC K "round_clashes" "round_clashes" s_x_round_clashes f fd c) (T : Txt K mg) {f_x_check_ruled_row : Addr} {d_x_check_ruled_row : FuncData} (C_x_check_ruled_row : SX.CalX (JJ mg) P w K mg base "check_ruled_row" f_x_check_ruled_row d_x_check_ruled_row 8 ["hues", "row", "rule"] fm_x_check_ruled_row) : FnOk P w K mg base (SX.CXe P w) 9 f fd ["hues", "row", "rule"] (SX.spX (JJ mg) K 3 fm_x_round_clashes) :=
  SX.fn_okW Fn sc_x_round_clashes (dv_x_round_clashes T C_x_check_ruled_row)
theorem sc_x_led_round : FnScope N_x_led_round ["hues", "row", "by"] (defScope s_x_led_round) := ⟨rfl, rfl, rfl, nd_x_led_round, rfl, by decide +kernel, by decide +kernel⟩
theorem dv_x_led_round {f c : Addr} (T : Txt K mg) {f_x_check_row_of : Addr} {d_x_check_row_of : FuncData} (C_x_check_row_of : SX.CalX (JJ mg) P w K mg base "check_row_of" f_x_check_row_of d_x_check_row_of 8 ["hues", "row"] fm_x_check_row_of) (A : Around) (outer : List PySem.Env) (s : Shared) (H : Hp) (E : XK) (hr : Room 8 (A.deeper (PyProof.Rows.envOfC "led_round" (defScope s_x_led_round) s.heap.objs.size f (.ref c)))) (hx : SX.XOk (JJ mg) (cxOf (SX.CXe P w) P w K mg base N_x_led_round "led_round" (defScope s_x_led_round) f (.ref c) A outer s H E) (fun c H' => E ((JJ mg).cls c) none H')) :
    WSs (cxOf (SX.CXe P w) P w K mg base N_x_led_round "led_round" (defScope s_x_led_round) f (.ref c) A outer s H E) (defBody s_x_led_round) (tS (JJ mg) K (fun c H' => E ((JJ mg).cls c) none H') m_x_led_round) :=
  (w_ss_cons (w_s_expr (w_e_calX hx C_x_check_row_of hr (by decide) rfl (al_cons (al_cons al_nil)) (w_a_cons (w_e_var 0) (w_a_cons (w_e_var 1) w_a_nil)))) w_ss_never)
theorem ok_x_led_round {f c : Addr} {fd : FuncData} (Fn : FunC K "led_round" "led_round" s_x_led_round f fd c) (T : Txt K mg) {f_x_check_row_of : Addr} {d_x_check_row_of : FuncData} (C_x_check_row_of : SX.CalX (JJ mg) P w K mg base "check_row_of" f_x_check_row_of d_x_check_row_of 8 ["hues", "row"] fm_x_check_row_of) : FnOk P w K mg base (SX.CXe P w) 9 f fd ["hues", "row", "by"] (SX.spX (JJ mg) K 3 fm_x_led_round) :=
  SX.fn_okW Fn sc_x_led_round (dv_x_led_round T C_x_check_row_of)
theorem sc_x_spread : FnScope N_x_spread ["hues", "row", "times"] (defScope s_x_spread) := ⟨rfl, rfl, rfl, nd_x_spread, rfl, by decide +kernel, by decide +kernel⟩
theorem dv_x_spread {f c : Addr} (T : Txt K mg) {f_x_check_row_of : Addr} {d_x_check_row_of : FuncData} (C_x_check_row_of : SX.CalX (JJ mg) P w K mg base "check_row_of" f_x_check_row_of d_x_check_row_of 8 ["hues", "row"] fm_x_check_row_of) (A : Around) (outer : List PySem.Env) (s : Shared) (H : Hp) (E : XK) (hr : Room 8 (A.deeper (PyProof.Rows.envOfC "spread" (defScope s_x_spread) s.heap.objs.size f (.ref c)))) (hx : SX.XOk (JJ mg) (cxOf (SX.CXe P w) P w K mg base N_x_spread "spread" (defScope s_x_spread) f (.ref c) A outer s H E) (fun c H' => E ((JJ mg).cls c) none H')) :
    WSs (cxOf (SX.CXe P w) P w K mg base N_x_spread "spread" (defScope s_x_spread) f (.ref c) A outer s H E) (defBody s_x_spread) (tS (JJ mg) K (fun c H' => E ((JJ mg).cls c) none H') m_x_spread) :=
  (w_ss_cons (w_s_expr (w_e_calX hx C_x_check_row_of hr (by decide) rfl (al_cons (al_cons al_nil)) (w_a_cons (w_e_var 0) (w_a_cons (w_e_var 1) w_a_nil)))) w_ss_never)
theorem ok_x_spread {f c : Addr} {fd : FuncData} (Fn : FunC K "spread" "spread" s_x_spread f fd c) (T : Txt K mg) {f_x_check_row_of : Addr} {d_x_check_row_of : FuncData} (C_x_check_row_of : SX.CalX (JJ mg) P w K mg base "check_row_of" f_x_check_row_of d_x_check_row_of 8 ["hues", "row"] fm_x_check_row_of) : FnOk P w K mg base (SX.CXe P w) 9 f fd ["hues", "row", "times"] (SX.spX (JJ mg) K 3 fm_x_spread) :=
  SX.fn_okW Fn sc_x_spread (dv_x_spread T C_x_check_row_of)
theorem sc_x_is_settled : FnScope N_x_is_settled ["hues", "row", "rule"] (defScope s_x_is_settled) := ⟨rfl, rfl, rfl, nd_x_is_settled, rfl, by decide +kernel, by decide +kernel⟩
theorem dv_x_is_settled {f c : Addr} (T : Txt K mg) {f_x_check_ruled_row : Addr} {d_x_check_ruled_row : FuncData} (C_x_check_ruled_row : SX.CalX (JJ mg) P w K mg base "check_ruled_row" f_x_check_ruled_row d_x_check_ruled_row 8 ["hues", "row", "rule"] fm_x_check_ruled_row) (A : Around) (outer : List PySem.Env) (s : Shared) (H : Hp) (E : XK) (hr : Room 8 (A.deeper (PyProof.Rows.envOfC "is_settled" (defScope s_x_is_settled) s.heap.objs.size f (.ref c)))) (hx : SX.XOk (JJ mg) (cxOf (SX.CXe P w) P w K mg base N_x_is_settled "is_settled" (defScope s_x_is_settled) f (.ref c) A outer s H E) (fun c H' => E ((JJ mg).cls c) none H')) :
    WSs (cxOf (SX.CXe P w) P w K mg base N_x_is_settled "is_settled" (defScope s_x_is_settled) f (.ref c) A outer s H E) (defBody s_x_is_settled) (tS (JJ mg) K (fun c H' => E ((JJ mg).cls c) none H') m_x_is_settled) :=
  (w_ss_cons (w_s_expr (w_e_calX hx C_x_check_ruled_row hr (by decide) rfl (al_cons (al_cons (al_cons al_nil))) (w_a_cons (w_e_var 0) (w_a_cons (w_e_var 1) (w_a_cons (w_e_var 2) w_a_nil))))) w_ss_never)
theorem ok_x_is_settled {f c : Addr} {fd : FuncData} (Fn : FunC K "is_settled" "is_settled" s_x_is_settled f fd c) (T : Txt K mg) {f_x_check_ruled_row : Addr} {d_x_check_ruled_row : FuncData} (C_x_check_ruled_row : SX.CalX (JJ mg) P w K mg base "check_ruled_row" f_x_check_ruled_row d_x_check_ruled_row 8 ["hues", "row", "rule"] fm_x_check_ruled_row) : FnOk P w K mg base (SX.CXe P w) 9 f fd ["hues", "row", "rule"] (SX.spX (JJ mg) K 3 fm_x_is_settled) :=
  SX.fn_okW Fn sc_x_is_settled (dv_x_is_settled T C_x_check_ruled_row)
theorem sc_x_led_down : FnScope N_x_led_down ["hues", "row", "rule"] (defScope s_x_led_down) := ⟨rfl, rfl, rfl, nd_x_led_down, rfl, by decide +kernel, by decide +kernel⟩
theorem dv_x_led_down {f c : Addr} (T : Txt K mg) {f_x_check_ruled_row : Addr} {d_x_check_ruled_row : FuncData} (C_x_check_ruled_row : SX.CalX (JJ mg) P w K mg base "check_ruled_row" f_x_check_ruled_row d_x_check_ruled_row 8 ["hues", "row", "rule"] fm_x_check_ruled_row) (A : Around) (outer : List PySem.Env) (s : Shared) (H : Hp) (E : XK) (hr : Room 8 (A.deeper (PyProof.Rows.envOfC "led_down" (defScope s_x_led_down) s.heap.objs.size f (.ref c)))) (hx : SX.XOk (JJ mg) (cxOf (SX.CXe P w) P w K mg base N_x_led_down "led_down" (defScope s_x_led_down) f (.ref c) A outer s H E) (fun c H' => E ((JJ mg).cls c) none H')) :
    WSs (cxOf (SX.CXe P w) P w K mg base N_x_led_down "led_down" (defScope s_x_led_down) f (.ref c) A outer s H E) (defBody s_x_led_down) (tS (JJ mg) K (fun c H' => E ((JJ mg).cls c) none H') m_x_led_down) :=
  (w_ss_cons (w_s_expr (w_e_calX hx C_x_check_ruled_row hr (by decide) rfl (al_cons (al_cons (al_cons al_nil))) (w_a_cons (w_e_var 0) (w_a_cons (w_e_var 1) (w_a_cons (w_e_var 2) w_a_nil))))) w_ss_never)
theorem ok_x_led_down {f c : Addr} {fd : FuncData} (Fn : FunC K "led_down" "led_down" s_x_led_down f fd c) (T : Txt K mg) {f_x_check_ruled_row : Addr} {d_x_check_ruled_row : FuncData} (C_x_check_ruled_row : SX.CalX (JJ mg) P w K mg base "check_ruled_row" f_x_check_ruled_row d_x_check_ruled_row 8 ["hues", "row", "rule"] fm_x_check_ruled_row) : FnOk P w K mg base (SX.CXe P w) 9 f fd ["hues", "row", "rule"] (SX.spX (JJ mg) K 3 fm_x_led_down) :=
  SX.fn_okW Fn sc_x_led_down (dv_x_led_down T C_x_check_ruled_row)
theorem sc_x_is_mirrored : FnScope N_x_is_mirrored ["hues", "row"] (defScope s_x_is_mirrored) := ⟨rfl, rfl, rfl, nd_x_is_mirrored, rfl, by decide +kernel, by decide +kernel⟩
theorem dv_x_is_mirrored {f c : Addr} (T : Txt K mg) {f_x_mirrored : Addr} {d_x_mirrored : FuncData} (C_x_mirrored : SX.CalX (JJ mg) P w K mg base "mirrored" f_x_mirrored d_x_mirrored 9 ["hues", "row"] fm_x_mirrored) (A : Around) (outer : List PySem.Env) (s : Shared) (H : Hp) (E : XK) (hr : Room 9 (A.deeper (PyProof.Rows.envOfC "is_mirrored" (defScope s_x_is_mirrored) s.heap.objs.size f (.ref c)))) (hx : SX.XOk (JJ mg) (cxOf (SX.CXe P w) P w K mg base N_x_is_mirrored "is_mirrored" (defScope s_x_is_mirrored) f (.ref c) A outer s H E) (fun c H' => E ((JJ mg).cls c) none H')) :
    WSs (cxOf (SX.CXe P w) P w K mg base N_x_is_mirrored "is_mirrored" (defScope s_x_is_mirrored) f (.ref c) A outer s H E) (defBody s_x_is_mirrored) (tS (JJ mg) K (fun c H' => E ((JJ mg).cls c) none H') m_x_is_mirrored) :=
  (w_ss_one (w_s_ret (w_e_cmp (o_eq hr.units) (w_e_calX hx C_x_mirrored hr (by decide) rfl (al_cons (al_cons al_nil)) (w_a_cons (w_e_var 0) (w_a_cons (w_e_var 1) w_a_nil))) (w_e_var 1) (by rfl))))
theorem ok_x_is_mirrored {f c : Addr} {fd : FuncData} (Fn : FunC K "is_mirrored" "is_mirrored" s_x_is_mirrored f fd c) (T : Txt K mg) {f_x_mirrored : Addr} {d_x_mirrored : FuncData} (C_x_mirrored : SX.CalX (JJ mg) P w K mg base "mirrored" f_x_mirrored d_x_mirrored 9 ["hues", "row"] fm_x_mirrored) : FnOk P w K mg base (SX.CXe P w) 10 f fd ["hues", "row"] (SX.spX (JJ mg) K 2 fm_x_is_mirrored) :=
  SX.fn_okW Fn sc_x_is_mirrored (dv_x_is_mirrored T C_x_mirrored)
theorem sc_x_is_round : FnScope N_x_is_round ["hues", "row", "rule"] (defScope s_x_is_round) := ⟨rfl, rfl, rfl, nd_x_is_round, rfl, by decide +kernel, by decide +kernel⟩
theorem dv_x_is_round {f c : Addr} (T : Txt K mg) {f_x_round_clashes : Addr} {d_x_round_clashes : FuncData} (C_x_round_clashes : SX.CalX (JJ mg) P w K mg base "round_clashes" f_x_round_clashes d_x_round_clashes 9 ["hues", "row", "rule"] fm_x_round_clashes) (A : Around) (outer : List PySem.Env) (s : Shared) (H : Hp) (E : XK) (hr : Room 9 (A.deeper (PyProof.Rows.envOfC "is_round" (defScope s_x_is_round) s.heap.objs.size f (.ref c)))) (hx : SX.XOk (JJ mg) (cxOf (SX.CXe P w) P w K mg base N_x_is_round "is_round" (defScope s_x_is_round) f (.ref c) A outer s H E) (fun c H' => E ((JJ mg).cls c) none H')) :
    WSs (cxOf (SX.CXe P w) P w K mg base N_x_is_round "is_round" (defScope s_x_is_round) f (.ref c) A outer s H E) (defBody s_x_is_round) (tS (JJ mg) K (fun c H' => E ((JJ mg).cls c) none H') m_x_is_round) :=
  (w_ss_one (w_s_ret (w_e_cmp (o_eq hr.units) (w_e_callB c_len rfl T.n_len (by decide +kernel) (w_a_cons (w_e_calX hx C_x_round_clashes hr (by decide) rfl (al_cons (al_cons (al_cons al_nil))) (w_a_cons (w_e_var 0) (w_a_cons (w_e_var 1) (w_a_cons (w_e_var 2) w_a_nil)))) w_a_nil)) w_e_int (by rfl))))
theorem ok_x_is_round {f c : Addr} {fd : FuncData} (Fn : FunC K "is_round" "is_round" s_x_is_round f fd c) (T : Txt K mg) {f_x_round_clashes : Addr} {d_x_round_clashes : FuncData} (C_x_round_clashes : SX.CalX (JJ mg) P w K mg base "round_clashes" f_x_round_clashes d_x_round_clashes 9 ["hues", "row", "rule"] fm_x_round_clashes) : FnOk P w K mg base (SX.CXe P w) 10 f fd ["hues", "row", "rule"] (SX.spX (JJ mg) K 3 fm_x_is_round) :=
  SX.fn_okW Fn sc_x_is_round (dv_x_is_round T C_x_round_clashes)
theorem scL_3 : FnScope NL_3 NL_3 (LL_3 fun _ => none).scope := ⟨rfl, rfl, rfl, ndL_3, rfl, by decide +kernel, by decide +kernel⟩
theorem lamP_3 (T : Txt K mg) {f_x_spread : Addr} {d_x_spread : FuncData} (C_x_spread : SX.CalX (JJ mg) P w K mg base "spread" f_x_spread d_x_spread 9 ["hues", "row", "times"] fm_x_spread) : SX.LamP (JJ mg) P w K mg base 10 3 (LL_3 mg) fmL_3 :=
  SX.lamP_mk (N := NL_3) (mb := mL_3) (L := LL_3 mg) scL_3 rfl (fun pm c ctv us hl => match us, hl with | [_, _, _], _ => rfl) (fun A outer s H E a c hr hx => (w_e_calX hx C_x_spread hr (by decide) rfl (al_cons (al_cons (al_cons al_nil))) (w_a_cons (w_e_var 0) (w_a_cons (w_e_var 1) (w_a_cons w_e_non w_a_nil)))))
theorem scL_2 : FnScope NL_2 NL_2 (LL_2 fun _ => none).scope := ⟨rfl, rfl, rfl, ndL_2, rfl, by decide +kernel, by decide +kernel⟩
theorem lamP_2 (T : Txt K mg) {f_x_led_round : Addr} {d_x_led_round : FuncData} (C_x_led_round : SX.CalX (JJ mg) P w K mg base "led_round" f_x_led_round d_x_led_round 9 ["hues", "row", "by"] fm_x_led_round) : SX.LamP (JJ mg) P w K mg base 10 3 (LL_2 mg) fmL_2 :=
  SX.lamP_mk (N := NL_2) (mb := mL_2) (L := LL_2 mg) scL_2 rfl (fun pm c ctv us hl => match us, hl with | [_, _, _], _ => rfl) (fun A outer s H E a c hr hx => (w_e_calX hx C_x_led_round hr (by decide) rfl (al_cons (al_cons (al_cons al_nil))) (w_a_cons (w_e_var 0) (w_a_cons (w_e_var 1) (w_a_cons w_e_non w_a_nil)))))
theorem scL_1 : FnScope NL_1 NL_1 (LL_1 fun _ => none).scope := ⟨rfl, rfl, rfl, ndL_1, rfl, by decide +kernel, by decide +kernel⟩
theorem lamP_1 (T : Txt K mg) {f_x_mirrored : Addr} {d_x_mirrored : FuncData} (C_x_mirrored : SX.CalX (JJ mg) P w K mg base "mirrored" f_x_mirrored d_x_mirrored 9 ["hues", "row"] fm_x_mirrored) : SX.LamP (JJ mg) P w K mg base 10 3 (LL_1 mg) fmL_1 :=
  SX.lamP_mk (N := NL_1) (mb := mL_1) (L := LL_1 mg) scL_1 rfl (fun pm c ctv us hl => match us, hl with | [_, _, _], _ => rfl) (fun A outer s H E a c hr hx => (w_e_calX hx C_x_mirrored hr (by decide) rfl (al_cons (al_cons al_nil)) (w_a_cons (w_e_var 0) (w_a_cons (w_e_var 1) w_a_nil))))
theorem scL_0 : FnScope NL_0 NL_0 (LL_0 fun _ => none).scope := ⟨rfl, rfl, rfl, ndL_0, rfl, by decide +kernel, by decide +kernel⟩
theorem lamP_0 (T : Txt K mg) {f_x_is_mirrored : Addr} {d_x_is_mirrored : FuncData} (C_x_is_mirrored : SX.CalX (JJ mg) P w K mg base "is_mirrored" f_x_is_mirrored d_x_is_mirrored 10 ["hues", "row"] fm_x_is_mirrored) : SX.LamP (JJ mg) P w K mg base 11 3 (LL_0 mg) fmL_0 :=
  SX.lamP_mk (N := NL_0) (mb := mL_0) (L := LL_0 mg) scL_0 rfl (fun pm c ctv us hl => match us, hl with | [_, _, _], _ => rfl) (fun A outer s H E a c hr hx => (w_e_calX hx C_x_is_mirrored hr (by decide) rfl (al_cons (al_cons al_nil)) (w_a_cons (w_e_var 0) (w_a_cons (w_e_var 1) w_a_nil))))
theorem sc_x_law_doors_right : FnScope N_x_law_doors_right ["_law_state_here", "_law_hues", "_law_row_here"] (defScope s_x_law_doors_right) := ⟨rfl, rfl, rfl, nd_x_law_doors_right, rfl, by decide +kernel, by decide +kernel⟩
theorem dv_x_law_doors_right {f c : Addr} (T : Txt K mg) {f_x_law_no_rule : Addr} {d_x_law_no_rule : FuncData} (C_x_law_no_rule : SX.CalX (JJ mg) P w K mg base "_law_no_rule" f_x_law_no_rule d_x_law_no_rule 2 ["_law_state_here"] fm_x_law_no_rule) {f_x_law_no_row : Addr} {d_x_law_no_row : FuncData} (C_x_law_no_row : SX.CalX (JJ mg) P w K mg base "_law_no_row" f_x_law_no_row d_x_law_no_row 3 ["_law_state_here", "_law_hues"] fm_x_law_no_row) {f_x_law_no_hues : Addr} {d_x_law_no_hues : FuncData} (C_x_law_no_hues : SX.CalX (JJ mg) P w K mg base "_law_no_hues" f_x_law_no_hues d_x_law_no_hues 2 ["_law_state_here"] fm_x_law_no_hues) {f_x_led_down : Addr} {d_x_led_down : FuncData} (C_x_led_down : SX.CalX (JJ mg) P w K mg base "led_down" f_x_led_down d_x_led_down 9 ["hues", "row", "rule"] fm_x_led_down) {f_x_is_settled : Addr} {d_x_is_settled : FuncData} (C_x_is_settled : SX.CalX (JJ mg) P w K mg base "is_settled" f_x_is_settled d_x_is_settled 9 ["hues", "row", "rule"] fm_x_is_settled) {f_x_is_round : Addr} {d_x_is_round : FuncData} (C_x_is_round : SX.CalX (JJ mg) P w K mg base "is_round" f_x_is_round d_x_is_round 10 ["hues", "row", "rule"] fm_x_is_round) {f_x_round_clashes : Addr} {d_x_round_clashes : FuncData} (C_x_round_clashes : SX.CalX (JJ mg) P w K mg base "round_clashes" f_x_round_clashes d_x_round_clashes 9 ["hues", "row", "rule"] fm_x_round_clashes) {f_x_spread : Addr} {d_x_spread : FuncData} (C_x_spread : SX.CalX (JJ mg) P w K mg base "spread" f_x_spread d_x_spread 9 ["hues", "row", "times"] fm_x_spread) {f_x_led_round : Addr} {d_x_led_round : FuncData} (C_x_led_round : SX.CalX (JJ mg) P w K mg base "led_round" f_x_led_round d_x_led_round 9 ["hues", "row", "by"] fm_x_led_round) {f_x_mirrored : Addr} {d_x_mirrored : FuncData} (C_x_mirrored : SX.CalX (JJ mg) P w K mg base "mirrored" f_x_mirrored d_x_mirrored 9 ["hues", "row"] fm_x_mirrored) {f_x_is_mirrored : Addr} {d_x_is_mirrored : FuncData} (C_x_is_mirrored : SX.CalX (JJ mg) P w K mg base "is_mirrored" f_x_is_mirrored d_x_is_mirrored 10 ["hues", "row"] fm_x_is_mirrored) {f_x_law_word c_x_law_word : Addr} (W_x_law_word : SX.WordRun (JJ mg) cls.length P w K mg base f_x_law_word N_x_law_word "_law_word" (defScope s_x_law_word) (.ref c_x_law_word) 12 1 m_x_law_word) (mg_x_law_word : mg "_law_word" = some (.ref f_x_law_word)) (kp_x_law_word : PySem.W.keepIn K (.ref f_x_law_word) = true) {Pt : Addr} (hcd : SG.CodeHd base c Pt) (hP : Pt ∈ tabs.map (·.2)) (hbm : SG.Bm base mg) (hlq : lq.lookup Pt = some (("_law_doors_right" : Str) ++ ".<locals>." ++ "<lambda>")) (A : Around) (outer : List PySem.Env) (s : Shared) (H : Hp) (E : XK) (hr : Room 13 (A.deeper (PyProof.Rows.envOfC "_law_doors_right" (defScope s_x_law_doors_right) s.heap.objs.size f (.ref c)))) (hx : SX.XOk (JJ mg) (cxOf (SX.CXe P w) P w K mg base N_x_law_doors_right "_law_doors_right" (defScope s_x_law_doors_right) f (.ref c) A outer s H E) (fun c H' => E ((JJ mg).cls c) none H')) :
    WSs (cxOf (SX.CXe P w) P w K mg base N_x_law_doors_right "_law_doors_right" (defScope s_x_law_doors_right) f (.ref c) A outer s H E) (defBody s_x_law_doors_right) (tS (JJ mg) K (fun c H' => E ((JJ mg).cls c) none H') m_x_law_doors_right) :=
  (w_ss_cons (w_s_asg (vs := [6, 7, 8]) (w_e_tup (w_a_cons (w_e_calX hx C_x_law_no_hues hr (by decide) rfl (al_cons al_nil) (w_a_cons (w_e_var 0) w_a_nil)) (w_a_cons (w_e_calX hx C_x_law_no_row hr (by decide) rfl (al_cons (al_cons al_nil)) (w_a_cons (w_e_var 0) (w_a_cons (w_e_var 1) w_a_nil))) (w_a_cons (w_e_calX hx C_x_law_no_rule hr (by decide) rfl (al_cons al_nil) (w_a_cons (w_e_var 0) w_a_nil)) w_a_nil)))) (pg_tup rfl (pgs_cons (pg_name (i := 6) nd_x_law_doors_right rfl (by first | exact Or.inl rfl | exact Or.inr rfl)) (pgs_cons (pg_name (i := 7) nd_x_law_doors_right rfl (by first | exact Or.inl rfl | exact Or.inr rfl)) (pgs_cons (pg_name (i := 8) nd_x_law_doors_right rfl (by first | exact Or.inl rfl | exact Or.inr rfl)) pgs_nil)))) (g_tup (gs_cons (g_name (i := 6) (by decide)) (gs_cons (g_name (i := 7) (by decide)) (gs_cons (g_name (i := 8) (by decide)) gs_nil))) rfl)) (w_ss_cons (w_s_set (i := 3) nd_x_law_doors_right rfl (by first | exact Or.inl rfl | exact Or.inr rfl) (w_e_lst (w_a_cons (w_e_lam (j := 0) rfl hcd hP hlq hbm (SX.free_of (by kernel_rfl)) rfl rfl) w_a_nil))) (w_ss_cons (w_s_expr (w_e_m F.slot_list_append F.type_list_append mt_append (fun _ _ _ _ _ _ _ _ => app_r) (w_e_var 3) (w_a_cons (w_e_lam (j := 1) rfl hcd hP hlq hbm (SX.free_of (by kernel_rfl)) rfl rfl) w_a_nil))) (w_ss_cons (w_s_expr (w_e_m F.slot_list_append F.type_list_append mt_append (fun _ _ _ _ _ _ _ _ => app_r) (w_e_var 3) (w_a_cons (w_e_lam (j := 2) rfl hcd hP hlq hbm (SX.free_of (by kernel_rfl)) rfl rfl) w_a_nil))) (w_ss_cons (w_s_expr (w_e_m F.slot_list_append F.type_list_append mt_append (fun _ _ _ _ _ _ _ _ => app_r) (w_e_var 3) (w_a_cons (w_e_lam (j := 3) rfl hcd hP hlq hbm (SX.free_of (by kernel_rfl)) rfl rfl) w_a_nil))) (w_ss_cons (w_s_set (i := 4) nd_x_law_doors_right rfl (by first | exact Or.inl rfl | exact Or.inr rfl) (w_e_lst (w_a_cons (w_e_fun (j := 0) rfl T.fn_round_clashes rfl) (w_a_cons (w_e_fun (j := 1) rfl T.fn_is_round rfl) (w_a_cons (w_e_fun (j := 2) rfl T.fn_is_settled rfl) (w_a_cons (w_e_fun (j := 3) rfl T.fn_led_down rfl) w_a_nil)))))) (w_ss_cons (w_s_for (vs := [5]) PassesOwn.leaving rfl (w_i_val (w_e_op o_add (w_e_var 3) (w_e_var 4))) (pg_name (i := 5) nd_x_law_doors_right rfl (by first | exact Or.inl rfl | exact Or.inr rfl)) (g_name (i := 5) (by decide)) (w_ss_cons (w_s_if (w_t_cmp (o_ne hr.units) (w_e_ref (kb := 11) SX.lv_cx (fun _ => rfl) hx W_x_law_word hr (by decide) rfl mg_x_law_word kp_x_law_word rfl hcd hP hlq hbm (SX.lamSc_of (by kernel_rfl)) (SX.free_of (by kernel_rfl)) rfl (fun _ _ _ _ => rfl) (fun _ _ _ _ _ _ _ _ _ hrL hxL => (w_e_calP (i := 5) hxL (SX.fnt_cons C_x_round_clashes T.fn_round_clashes (by decide) rfl (SX.fnt_cons C_x_is_round T.fn_is_round (by decide) rfl (SX.fnt_cons C_x_is_settled T.fn_is_settled (by decide) rfl (SX.fnt_cons C_x_led_down T.fn_led_down (by decide) rfl SX.fnt_nil)))) rfl (SX.lamt_cons (lamP_0 T C_x_is_mirrored) (by decide) (SX.lamt_cons (lamP_1 T C_x_mirrored) (by decide) (SX.lamt_cons (lamP_2 T C_x_led_round) (by decide) (SX.lamt_cons (lamP_3 T C_x_spread) (by decide) SX.lamt_nil)))) hrL rfl (by first | exact Or.inl rfl | exact Or.inr (Or.inl rfl) | exact Or.inr (Or.inr rfl)) (al_cons (al_cons (al_cons al_nil))) (w_a_cons (w_e_var 6) (w_a_cons (w_e_var 7) (w_a_cons (w_e_var 8) w_a_nil))))) (by decide)) w_e_str (by rfl)) (w_ss_one (w_s_ret w_e_bl)) w_ss_nil) (w_ss_one (w_s_if (w_t_cmp (o_ne hr.units) (w_e_ref (kb := 11) SX.lv_cx (fun _ => rfl) hx W_x_law_word hr (by decide) rfl mg_x_law_word kp_x_law_word rfl hcd hP hlq hbm (SX.lamSc_of (by kernel_rfl)) (SX.free_of (by kernel_rfl)) rfl (fun _ _ _ _ => rfl) (fun _ _ _ _ _ _ _ _ _ hrL hxL => (w_e_calP (i := 5) hxL (SX.fnt_cons C_x_round_clashes T.fn_round_clashes (by decide) rfl (SX.fnt_cons C_x_is_round T.fn_is_round (by decide) rfl (SX.fnt_cons C_x_is_settled T.fn_is_settled (by decide) rfl (SX.fnt_cons C_x_led_down T.fn_led_down (by decide) rfl SX.fnt_nil)))) rfl (SX.lamt_cons (lamP_0 T C_x_is_mirrored) (by decide) (SX.lamt_cons (lamP_1 T C_x_mirrored) (by decide) (SX.lamt_cons (lamP_2 T C_x_led_round) (by decide) (SX.lamt_cons (lamP_3 T C_x_spread) (by decide) SX.lamt_nil)))) hrL rfl (by first | exact Or.inl rfl | exact Or.inr (Or.inl rfl) | exact Or.inr (Or.inr rfl)) (al_cons (al_cons (al_cons al_nil))) (w_a_cons (w_e_var 1) (w_a_cons (w_e_var 7) (w_a_cons (w_e_var 8) w_a_nil))))) (by decide)) w_e_str (by rfl)) (w_ss_one (w_s_ret w_e_bl)) w_ss_nil)))) (w_ss_cons (w_s_for (vs := [5]) PassesOwn.leaving rfl (w_i_val (w_e_var 4)) (pg_name (i := 5) nd_x_law_doors_right rfl (by first | exact Or.inl rfl | exact Or.inr rfl)) (g_name (i := 5) (by decide)) (w_ss_cons (w_s_if (w_t_cmp (o_ne hr.units) (w_e_ref (kb := 11) SX.lv_cx (fun _ => rfl) hx W_x_law_word hr (by decide) rfl mg_x_law_word kp_x_law_word rfl hcd hP hlq hbm (SX.lamSc_of (by kernel_rfl)) (SX.free_of (by kernel_rfl)) rfl (fun _ _ _ _ => rfl) (fun _ _ _ _ _ _ _ _ _ hrL hxL => (w_e_calP (i := 5) hxL (SX.fnt_cons C_x_round_clashes T.fn_round_clashes (by decide) rfl (SX.fnt_cons C_x_is_round T.fn_is_round (by decide) rfl (SX.fnt_cons C_x_is_settled T.fn_is_settled (by decide) rfl (SX.fnt_cons C_x_led_down T.fn_led_down (by decide) rfl SX.fnt_nil)))) rfl (SX.lamt_cons (lamP_0 T C_x_is_mirrored) (by decide) (SX.lamt_cons (lamP_1 T C_x_mirrored) (by decide) (SX.lamt_cons (lamP_2 T C_x_led_round) (by decide) (SX.lamt_cons (lamP_3 T C_x_spread) (by decide) SX.lamt_nil)))) hrL rfl (by first | exact Or.inl rfl | exact Or.inr (Or.inl rfl) | exact Or.inr (Or.inr rfl)) (al_cons (al_cons (al_cons al_nil))) (w_a_cons (w_e_var 1) (w_a_cons (w_e_var 2) (w_a_cons (w_e_var 8) w_a_nil))))) (by decide)) w_e_str (by rfl)) (w_ss_one (w_s_ret w_e_bl)) w_ss_nil) (w_ss_one (w_s_if (w_t_cmp (o_ne hr.units) (w_e_ref (kb := 11) SX.lv_cx (fun _ => rfl) hx W_x_law_word hr (by decide) rfl mg_x_law_word kp_x_law_word rfl hcd hP hlq hbm (SX.lamSc_of (by kernel_rfl)) (SX.free_of (by kernel_rfl)) rfl (fun _ _ _ _ => rfl) (fun _ _ _ _ _ _ _ _ _ hrL hxL => (w_e_calP (i := 5) hxL (SX.fnt_cons C_x_round_clashes T.fn_round_clashes (by decide) rfl (SX.fnt_cons C_x_is_round T.fn_is_round (by decide) rfl (SX.fnt_cons C_x_is_settled T.fn_is_settled (by decide) rfl (SX.fnt_cons C_x_led_down T.fn_led_down (by decide) rfl SX.fnt_nil)))) rfl (SX.lamt_cons (lamP_0 T C_x_is_mirrored) (by decide) (SX.lamt_cons (lamP_1 T C_x_mirrored) (by decide) (SX.lamt_cons (lamP_2 T C_x_led_round) (by decide) (SX.lamt_cons (lamP_3 T C_x_spread) (by decide) SX.lamt_nil)))) hrL rfl (by first | exact Or.inl rfl | exact Or.inr (Or.inl rfl) | exact Or.inr (Or.inr rfl)) (al_cons (al_cons (al_cons al_nil))) (w_a_cons (w_e_var 6) (w_a_cons (w_e_var 2) (w_a_cons (w_e_var 8) w_a_nil))))) (by decide)) w_e_str (by rfl)) (w_ss_one (w_s_ret w_e_bl)) w_ss_nil)))) (w_ss_one (w_s_ret w_e_bl))))))))))
theorem ok_x_law_doors_right {f c : Addr} {fd : FuncData} (Fn : FunC K "_law_doors_right" "_law_doors_right" s_x_law_doors_right f fd c) (T : Txt K mg) {f_x_law_no_rule : Addr} {d_x_law_no_rule : FuncData} (C_x_law_no_rule : SX.CalX (JJ mg) P w K mg base "_law_no_rule" f_x_law_no_rule d_x_law_no_rule 2 ["_law_state_here"] fm_x_law_no_rule) {f_x_law_no_row : Addr} {d_x_law_no_row : FuncData} (C_x_law_no_row : SX.CalX (JJ mg) P w K mg base "_law_no_row" f_x_law_no_row d_x_law_no_row 3 ["_law_state_here", "_law_hues"] fm_x_law_no_row) {f_x_law_no_hues : Addr} {d_x_law_no_hues : FuncData} (C_x_law_no_hues : SX.CalX (JJ mg) P w K mg base "_law_no_hues" f_x_law_no_hues d_x_law_no_hues 2 ["_law_state_here"] fm_x_law_no_hues) {f_x_led_down : Addr} {d_x_led_down : FuncData} (C_x_led_down : SX.CalX (JJ mg) P w K mg base "led_down" f_x_led_down d_x_led_down 9 ["hues", "row", "rule"] fm_x_led_down) {f_x_is_settled : Addr} {d_x_is_settled : FuncData} (C_x_is_settled : SX.CalX (JJ mg) P w K mg base "is_settled" f_x_is_settled d_x_is_settled 9 ["hues", "row", "rule"] fm_x_is_settled) {f_x_is_round : Addr} {d_x_is_round : FuncData} (C_x_is_round : SX.CalX (JJ mg) P w K mg base "is_round" f_x_is_round d_x_is_round 10 ["hues", "row", "rule"] fm_x_is_round) {f_x_round_clashes : Addr} {d_x_round_clashes : FuncData} (C_x_round_clashes : SX.CalX (JJ mg) P w K mg base "round_clashes" f_x_round_clashes d_x_round_clashes 9 ["hues", "row", "rule"] fm_x_round_clashes) {f_x_spread : Addr} {d_x_spread : FuncData} (C_x_spread : SX.CalX (JJ mg) P w K mg base "spread" f_x_spread d_x_spread 9 ["hues", "row", "times"] fm_x_spread) {f_x_led_round : Addr} {d_x_led_round : FuncData} (C_x_led_round : SX.CalX (JJ mg) P w K mg base "led_round" f_x_led_round d_x_led_round 9 ["hues", "row", "by"] fm_x_led_round) {f_x_mirrored : Addr} {d_x_mirrored : FuncData} (C_x_mirrored : SX.CalX (JJ mg) P w K mg base "mirrored" f_x_mirrored d_x_mirrored 9 ["hues", "row"] fm_x_mirrored) {f_x_is_mirrored : Addr} {d_x_is_mirrored : FuncData} (C_x_is_mirrored : SX.CalX (JJ mg) P w K mg base "is_mirrored" f_x_is_mirrored d_x_is_mirrored 10 ["hues", "row"] fm_x_is_mirrored) {f_x_law_word c_x_law_word : Addr} (W_x_law_word : SX.WordRun (JJ mg) cls.length P w K mg base f_x_law_word N_x_law_word "_law_word" (defScope s_x_law_word) (.ref c_x_law_word) 12 1 m_x_law_word) (mg_x_law_word : mg "_law_word" = some (.ref f_x_law_word)) (kp_x_law_word : PySem.W.keepIn K (.ref f_x_law_word) = true) {Pt : Addr} (hcd : SG.CodeHd base c Pt) (hP : Pt ∈ tabs.map (·.2)) (hbm : SG.Bm base mg) (hlq : lq.lookup Pt = some (("_law_doors_right" : Str) ++ ".<locals>." ++ "<lambda>")) : FnOk P w K mg base (SX.CXe P w) 14 f fd ["_law_state_here", "_law_hues", "_law_row_here"] (SX.spX (JJ mg) K 3 fm_x_law_doors_right) :=
  SX.fn_okW Fn sc_x_law_doors_right (dv_x_law_doors_right T C_x_law_no_rule C_x_law_no_row C_x_law_no_hues C_x_led_down C_x_is_settled C_x_is_round C_x_round_clashes C_x_spread C_x_led_round C_x_mirrored C_x_is_mirrored W_x_law_word mg_x_law_word kp_x_law_word hcd hP hbm hlq)
theorem sc_x_law_laid_right : FnScope N_x_law_laid_right ["_law_state_here", "_law_hues", "_law_row_here"] (defScope s_x_law_laid_right) := ⟨rfl, rfl, rfl, nd_x_law_laid_right, rfl, by decide +kernel, by decide +kernel⟩
theorem dv_x_law_laid_right {f c : Addr} (T : Txt K mg) {f_x_law_no_row : Addr} {d_x_law_no_row : FuncData} (C_x_law_no_row : SX.CalX (JJ mg) P w K mg base "_law_no_row" f_x_law_no_row d_x_law_no_row 3 ["_law_state_here", "_law_hues"] fm_x_law_no_row) {f_x_law_no_hues : Addr} {d_x_law_no_hues : FuncData} (C_x_law_no_hues : SX.CalX (JJ mg) P w K mg base "_law_no_hues" f_x_law_no_hues d_x_law_no_hues 2 ["_law_state_here"] fm_x_law_no_hues) {f_x_laid : Addr} {d_x_laid : FuncData} (C_x_laid : SX.CalX (JJ mg) P w K mg base "laid" f_x_laid d_x_laid 9 ["one", "row", "other", "more"] fm_x_laid) {f_x_law_word c_x_law_word : Addr} (W_x_law_word : SX.WordRun (JJ mg) cls.length P w K mg base f_x_law_word N_x_law_word "_law_word" (defScope s_x_law_word) (.ref c_x_law_word) 12 1 m_x_law_word) (mg_x_law_word : mg "_law_word" = some (.ref f_x_law_word)) (kp_x_law_word : PySem.W.keepIn K (.ref f_x_law_word) = true) {Pt : Addr} (hcd : SG.CodeHd base c Pt) (hP : Pt ∈ tabs.map (·.2)) (hbm : SG.Bm base mg) (hlq : lq.lookup Pt = some (("_law_laid_right" : Str) ++ ".<locals>." ++ "<lambda>")) (A : Around) (outer : List PySem.Env) (s : Shared) (H : Hp) (E : XK) (hr : Room 13 (A.deeper (PyProof.Rows.envOfC "_law_laid_right" (defScope s_x_law_laid_right) s.heap.objs.size f (.ref c)))) (hx : SX.XOk (JJ mg) (cxOf (SX.CXe P w) P w K mg base N_x_law_laid_right "_law_laid_right" (defScope s_x_law_laid_right) f (.ref c) A outer s H E) (fun c H' => E ((JJ mg).cls c) none H')) :
    WSs (cxOf (SX.CXe P w) P w K mg base N_x_law_laid_right "_law_laid_right" (defScope s_x_law_laid_right) f (.ref c) A outer s H E) (defBody s_x_law_laid_right) (tS (JJ mg) K (fun c H' => E ((JJ mg).cls c) none H') m_x_law_laid_right) :=
  (w_ss_cons (w_s_par3 (ii := 4) (jj := 5) (kk := 6) rfl nd_x_law_laid_right rfl rfl rfl (by decide) (by decide) (by decide) rfl rfl rfl (w_a_cons (w_e_calX hx C_x_law_no_hues hr (by decide) rfl (al_cons al_nil) (w_a_cons (w_e_var 0) w_a_nil)) (w_a_cons (w_e_calX hx C_x_law_no_row hr (by decide) rfl (al_cons (al_cons al_nil)) (w_a_cons (w_e_var 0) (w_a_cons (w_e_var 1) w_a_nil))) (w_a_cons (w_e_calX hx C_x_law_no_row hr (by decide) rfl (al_cons (al_cons al_nil)) (w_a_cons (w_e_var 0) (w_a_cons w_e_int w_a_nil))) w_a_nil))) rfl) (w_ss_cons (w_s_set (i := 3) nd_x_law_laid_right rfl (by first | exact Or.inl rfl | exact Or.inr rfl) (w_e_lst (w_a_cons (w_e_tup (w_a_cons (w_e_var 4) (w_a_cons (w_e_var 5) (w_a_cons (w_e_var 4) (w_a_cons (w_e_var 6) (w_a_cons w_e_str w_a_nil)))))) (w_a_cons (w_e_tup (w_a_cons (w_e_var 1) (w_a_cons (w_e_var 5) (w_a_cons (w_e_var 4) (w_a_cons (w_e_var 6) (w_a_cons w_e_str w_a_nil)))))) (w_a_cons (w_e_tup (w_a_cons (w_e_var 1) (w_a_cons (w_e_var 2) (w_a_cons (w_e_var 4) (w_a_cons (w_e_var 6) (w_a_cons w_e_str w_a_nil)))))) w_a_nil))))) (w_ss_cons (w_s_set (i := 3) nd_x_law_laid_right rfl (by first | exact Or.inl rfl | exact Or.inr rfl) (w_e_op o_add (w_e_var 3) (w_e_lst (w_a_cons (w_e_tup (w_a_cons (w_e_var 1) (w_a_cons (w_e_var 2) (w_a_cons w_e_int (w_a_cons (w_e_var 6) (w_a_cons w_e_str w_a_nil)))))) (w_a_cons (w_e_tup (w_a_cons (w_e_var 1) (w_a_cons (w_e_var 2) (w_a_cons w_e_int (w_a_cons (w_e_tup (w_a_cons w_e_int (w_a_cons w_e_int (w_a_cons w_e_int w_a_nil)))) (w_a_cons w_e_str w_a_nil)))))) (w_a_cons (w_e_tup (w_a_cons (w_e_var 4) (w_a_cons (w_e_var 2) (w_a_cons w_e_int (w_a_cons (w_e_tup w_a_nil) (w_a_cons w_e_str w_a_nil)))))) w_a_nil)))))) (w_ss_one (w_s_ret (w_e_cmp (o_eq hr.units) (w_e_lc (own := [("_law_one", 7)]) rfl nd_x_law_laid_right (w_i_val (w_e_var 3)) (blk_mk (by kernel_rfl)) (g_name (i := 7) (by decide)) (fun _ _ _ _ _ => (pg_name (i := 7) nd_x_law_laid_right rfl (by first | exact Or.inl rfl | exact Or.inr rfl))) (fun _ _ _ _ _ => (w_ts_one (w_t_cmp (o_ne hr.units) (w_e_refL (kb := 9) (by rfl) (by rfl) (by rfl) (by exact SX.fnc_of (by kernel_rfl)) W_x_law_word hr (by decide) (by rfl) mg_x_law_word kp_x_law_word (by rfl) hcd hP hlq hbm (by exact SX.lamSc_of (by kernel_rfl)) (by exact SX.free_of (by kernel_rfl)) (by rfl) (by intros; rfl) (fun _ _ _ _ _ _ _ _ _ hrL hxL => (w_e_calX hxL C_x_laid hrL (by decide) rfl (al_cons (al_cons (al_cons (al_cons al_nil)))) (w_a_cons (w_e_ix (w_e_var 7) w_e_int (fun _ _ => rfl)) (w_a_cons (w_e_ix (w_e_var 7) w_e_int (fun _ _ => rfl)) (w_a_cons (w_e_ix (w_e_var 7) w_e_int (fun _ _ => rfl)) (w_a_cons (w_e_ix (w_e_var 7) w_e_int (fun _ _ => rfl)) w_a_nil)))))) (by decide)) (w_e_ix (w_e_var 7) w_e_int (fun _ _ => rfl)) (by rfl)))) (fun _ _ _ _ _ => (w_e_var 7))) (w_e_lst w_a_nil) (by rfl)))))))
theorem ok_x_law_laid_right {f c : Addr} {fd : FuncData} (Fn : FunC K "_law_laid_right" "_law_laid_right" s_x_law_laid_right f fd c) (T : Txt K mg) {f_x_law_no_row : Addr} {d_x_law_no_row : FuncData} (C_x_law_no_row : SX.CalX (JJ mg) P w K mg base "_law_no_row" f_x_law_no_row d_x_law_no_row 3 ["_law_state_here", "_law_hues"] fm_x_law_no_row) {f_x_law_no_hues : Addr} {d_x_law_no_hues : FuncData} (C_x_law_no_hues : SX.CalX (JJ mg) P w K mg base "_law_no_hues" f_x_law_no_hues d_x_law_no_hues 2 ["_law_state_here"] fm_x_law_no_hues) {f_x_laid : Addr} {d_x_laid : FuncData} (C_x_laid : SX.CalX (JJ mg) P w K mg base "laid" f_x_laid d_x_laid 9 ["one", "row", "other", "more"] fm_x_laid) {f_x_law_word c_x_law_word : Addr} (W_x_law_word : SX.WordRun (JJ mg) cls.length P w K mg base f_x_law_word N_x_law_word "_law_word" (defScope s_x_law_word) (.ref c_x_law_word) 12 1 m_x_law_word) (mg_x_law_word : mg "_law_word" = some (.ref f_x_law_word)) (kp_x_law_word : PySem.W.keepIn K (.ref f_x_law_word) = true) {Pt : Addr} (hcd : SG.CodeHd base c Pt) (hP : Pt ∈ tabs.map (·.2)) (hbm : SG.Bm base mg) (hlq : lq.lookup Pt = some (("_law_laid_right" : Str) ++ ".<locals>." ++ "<lambda>")) : FnOk P w K mg base (SX.CXe P w) 14 f fd ["_law_state_here", "_law_hues", "_law_row_here"] (SX.spX (JJ mg) K 3 fm_x_law_laid_right) :=
  SX.fn_okW Fn sc_x_law_laid_right (dv_x_law_laid_right T C_x_law_no_row C_x_law_no_hues C_x_laid W_x_law_word mg_x_law_word kp_x_law_word hcd hP hbm hlq)
theorem sc_x_law : FnScope N_x_law ["_law_script"] (defScope s_x_law) := ⟨rfl, rfl, rfl, nd_x_law, rfl, by decide +kernel, by decide +kernel⟩
theorem dv_x_law {f c : Addr} (T : Txt K mg) {f_x_law_state : Addr} {d_x_law_state : FuncData} (C_x_law_state : SX.CalX (JJ mg) P w K mg base "_law_state" f_x_law_state d_x_law_state 2 ["_law_script", "_law_k"] fm_x_law_state) {f_x_law_take : Addr} {d_x_law_take : FuncData} (C_x_law_take : SX.CalX (JJ mg) P w K mg base "_law_take" f_x_law_take d_x_law_take 1 ["_law_state_here", "_law_many"] fm_x_law_take) {f_x_law_row : Addr} {d_x_law_row : FuncData} (C_x_law_row : SX.CalX (JJ mg) P w K mg base "_law_row" f_x_law_row d_x_law_row 2 ["_law_state_here", "_law_hues", "_law_many"] fm_x_law_row) {f_x_law_laid_right : Addr} {d_x_law_laid_right : FuncData} (C_x_law_laid_right : SX.CalX (JJ mg) P w K mg base "_law_laid_right" f_x_law_laid_right d_x_law_laid_right 14 ["_law_state_here", "_law_hues", "_law_row_here"] fm_x_law_laid_right) {f_x_law_doors_right : Addr} {d_x_law_doors_right : FuncData} (C_x_law_doors_right : SX.CalX (JJ mg) P w K mg base "_law_doors_right" f_x_law_doors_right d_x_law_doors_right 14 ["_law_state_here", "_law_hues", "_law_row_here"] fm_x_law_doors_right) (A : Around) (outer : List PySem.Env) (s : Shared) (H : Hp) (E : XK) (hr : Room 14 (A.deeper (PyProof.Rows.envOfC "law" (defScope s_x_law) s.heap.objs.size f (.ref c)))) (hx : SX.XOk (JJ mg) (cxOf (SX.CXe P w) P w K mg base N_x_law "law" (defScope s_x_law) f (.ref c) A outer s H E) (fun c H' => E ((JJ mg).cls c) none H')) :
    WSs (cxOf (SX.CXe P w) P w K mg base N_x_law "law" (defScope s_x_law) f (.ref c) A outer s H E) (defBody s_x_law) (tS (JJ mg) K (fun c H' => E ((JJ mg).cls c) none H') m_x_law) :=
  (w_ss_cons (w_s_for (vs := [1]) PassesOwn.leaving rfl (w_i_rng1 rfl T.n_range (w_a_cons (w_e_callB (c_max rfl) rfl T.n_max (by decide +kernel) (w_a_cons w_e_int (w_a_cons (w_e_callB (c_min rfl) rfl T.n_min (by decide +kernel) (w_a_cons (w_e_callB c_len rfl T.n_len (by decide +kernel) (w_a_cons (w_e_var 0) w_a_nil)) (w_a_cons w_e_int w_a_nil))) w_a_nil))) w_a_nil)) (pg_name (i := 1) nd_x_law rfl (by first | exact Or.inl rfl | exact Or.inr rfl)) (g_name (i := 1) (by decide)) (w_ss_cons (w_s_set (i := 2) nd_x_law rfl (by first | exact Or.inl rfl | exact Or.inr rfl) (w_e_calX hx C_x_law_state hr (by decide) rfl (al_cons (al_cons al_nil)) (w_a_cons (w_e_var 0) (w_a_cons (w_e_var 1) w_a_nil)))) (w_ss_cons (w_s_set (i := 3) nd_x_law rfl (by first | exact Or.inl rfl | exact Or.inr rfl) (w_e_op o_add w_e_int (w_e_calX hx C_x_law_take hr (by decide) rfl (al_cons (al_cons al_nil)) (w_a_cons (w_e_var 2) (w_a_cons w_e_int w_a_nil))))) (w_ss_cons (w_s_set (i := 4) nd_x_law rfl (by first | exact Or.inl rfl | exact Or.inr rfl) (w_e_calX hx C_x_law_row hr (by decide) rfl (al_cons (al_cons (al_cons al_nil))) (w_a_cons (w_e_var 2) (w_a_cons (w_e_var 3) (w_a_cons (w_e_calX hx C_x_law_take hr (by decide) rfl (al_cons (al_cons al_nil)) (w_a_cons (w_e_var 2) (w_a_cons w_e_int w_a_nil))) w_a_nil))))) (w_ss_one (w_s_if (w_t_w (w_w_or (w_t_not (w_t_tru (w_e_calX hx C_x_law_doors_right hr (by decide) rfl (al_cons (al_cons (al_cons al_nil))) (w_a_cons (w_e_var 2) (w_a_cons (w_e_var 3) (w_a_cons (w_e_var 4) w_a_nil)))))) (w_w_or1 (w_t_not (w_t_tru (w_e_calX hx C_x_law_laid_right hr (by decide) rfl (al_cons (al_cons (al_cons al_nil))) (w_a_cons (w_e_var 2) (w_a_cons (w_e_var 3) (w_a_cons (w_e_var 4) w_a_nil))))))))) (w_ss_one (w_s_ret w_e_bl)) w_ss_nil)))))) (w_ss_one (w_s_ret w_e_bl)))
theorem ok_x_law {f c : Addr} {fd : FuncData} (Fn : FunC K "law" "law" s_x_law f fd c) (T : Txt K mg) {f_x_law_state : Addr} {d_x_law_state : FuncData} (C_x_law_state : SX.CalX (JJ mg) P w K mg base "_law_state" f_x_law_state d_x_law_state 2 ["_law_script", "_law_k"] fm_x_law_state) {f_x_law_take : Addr} {d_x_law_take : FuncData} (C_x_law_take : SX.CalX (JJ mg) P w K mg base "_law_take" f_x_law_take d_x_law_take 1 ["_law_state_here", "_law_many"] fm_x_law_take) {f_x_law_row : Addr} {d_x_law_row : FuncData} (C_x_law_row : SX.CalX (JJ mg) P w K mg base "_law_row" f_x_law_row d_x_law_row 2 ["_law_state_here", "_law_hues", "_law_many"] fm_x_law_row) {f_x_law_laid_right : Addr} {d_x_law_laid_right : FuncData} (C_x_law_laid_right : SX.CalX (JJ mg) P w K mg base "_law_laid_right" f_x_law_laid_right d_x_law_laid_right 14 ["_law_state_here", "_law_hues", "_law_row_here"] fm_x_law_laid_right) {f_x_law_doors_right : Addr} {d_x_law_doors_right : FuncData} (C_x_law_doors_right : SX.CalX (JJ mg) P w K mg base "_law_doors_right" f_x_law_doors_right d_x_law_doors_right 14 ["_law_state_here", "_law_hues", "_law_row_here"] fm_x_law_doors_right) : FnOk P w K mg base (SX.CXe P w) 15 f fd ["_law_script"] (SX.spX JJ0 K 1 (SX.topF fm_x_law)) :=
  SX.fn_okL (fun _ => lamP mg) Fn sc_x_law (dv_x_law T C_x_law_state C_x_law_take C_x_law_row C_x_law_laid_right C_x_law_doors_right)
end
theorem all_mk {l : PySem.W.OpenLaw} {w : World} {K : PySem.W.Frag} {h : Heap} {mg : Str → Option Value} {fa : Addr} (X : K.In h) (G : h.Ns mainGlobals mg) (hfa : mg "law" = some (.ref fa))
    {f_x_is_whole c_x_is_whole : Addr} {oc_x_is_whole kV_x_is_whole dc_x_is_whole pm_x_is_whole ct_x_is_whole : Value} {od_x_is_whole an_x_is_whole : Option Addr} {sl_x_is_whole : Array (Option Value)} (a_x_is_whole : PySem.W.nsIn K mainGlobals "is_whole" = some (some (.ref f_x_is_whole))) (l_x_is_whole : K.lookup f_x_is_whole = some ⟨oc_x_is_whole, od_x_is_whole, .func (fdOf "is_whole" s_x_is_whole kV_x_is_whole dc_x_is_whole pm_x_is_whole an_x_is_whole c_x_is_whole ct_x_is_whole), sl_x_is_whole⟩) (cd_x_is_whole : PySem.W.codeIn K (.ref c_x_is_whole) "is_whole" = true) (k_x_is_whole : PySem.W.keepIn K (.ref f_x_is_whole) = true)
    {f_x_check_rule c_x_check_rule : Addr} {oc_x_check_rule kV_x_check_rule dc_x_check_rule pm_x_check_rule ct_x_check_rule : Value} {od_x_check_rule an_x_check_rule : Option Addr} {sl_x_check_rule : Array (Option Value)} (a_x_check_rule : PySem.W.nsIn K mainGlobals "check_rule" = some (some (.ref f_x_check_rule))) (l_x_check_rule : K.lookup f_x_check_rule = some ⟨oc_x_check_rule, od_x_check_rule, .func (fdOf "check_rule" s_x_check_rule kV_x_check_rule dc_x_check_rule pm_x_check_rule an_x_check_rule c_x_check_rule ct_x_check_rule), sl_x_check_rule⟩) (cd_x_check_rule : PySem.W.codeIn K (.ref c_x_check_rule) "check_rule" = true) (k_x_check_rule : PySem.W.keepIn K (.ref f_x_check_rule) = true)
    {f_x_width_of c_x_width_of : Addr} {oc_x_width_of kV_x_width_of dc_x_width_of pm_x_width_of ct_x_width_of : Value} {od_x_width_of an_x_width_of : Option Addr} {sl_x_width_of : Array (Option Value)} (a_x_width_of : PySem.W.nsIn K mainGlobals "width_of" = some (some (.ref f_x_width_of))) (l_x_width_of : K.lookup f_x_width_of = some ⟨oc_x_width_of, od_x_width_of, .func (fdOf "width_of" s_x_width_of kV_x_width_of dc_x_width_of pm_x_width_of an_x_width_of c_x_width_of ct_x_width_of), sl_x_width_of⟩) (cd_x_width_of : PySem.W.codeIn K (.ref c_x_width_of) "width_of" = true) (k_x_width_of : PySem.W.keepIn K (.ref f_x_width_of) = true)
    {f_x_law_cell_at c_x_law_cell_at : Addr} {oc_x_law_cell_at kV_x_law_cell_at dc_x_law_cell_at pm_x_law_cell_at ct_x_law_cell_at : Value} {od_x_law_cell_at an_x_law_cell_at : Option Addr} {sl_x_law_cell_at : Array (Option Value)} (a_x_law_cell_at : PySem.W.nsIn K mainGlobals "_law_cell_at" = some (some (.ref f_x_law_cell_at))) (l_x_law_cell_at : K.lookup f_x_law_cell_at = some ⟨oc_x_law_cell_at, od_x_law_cell_at, .func (fdOf "_law_cell_at" s_x_law_cell_at kV_x_law_cell_at dc_x_law_cell_at pm_x_law_cell_at an_x_law_cell_at c_x_law_cell_at ct_x_law_cell_at), sl_x_law_cell_at⟩) (cd_x_law_cell_at : PySem.W.codeIn K (.ref c_x_law_cell_at) "_law_cell_at" = true) (k_x_law_cell_at : PySem.W.keepIn K (.ref f_x_law_cell_at) = true)
    {f_x_law_take c_x_law_take : Addr} {oc_x_law_take kV_x_law_take dc_x_law_take pm_x_law_take ct_x_law_take : Value} {od_x_law_take an_x_law_take : Option Addr} {sl_x_law_take : Array (Option Value)} (a_x_law_take : PySem.W.nsIn K mainGlobals "_law_take" = some (some (.ref f_x_law_take))) (l_x_law_take : K.lookup f_x_law_take = some ⟨oc_x_law_take, od_x_law_take, .func (fdOf "_law_take" s_x_law_take kV_x_law_take dc_x_law_take pm_x_law_take an_x_law_take c_x_law_take ct_x_law_take), sl_x_law_take⟩) (cd_x_law_take : PySem.W.codeIn K (.ref c_x_law_take) "_law_take" = true) (k_x_law_take : PySem.W.keepIn K (.ref f_x_law_take) = true)
    {f_x_law_fits c_x_law_fits : Addr} {oc_x_law_fits kV_x_law_fits dc_x_law_fits pm_x_law_fits ct_x_law_fits : Value} {od_x_law_fits an_x_law_fits : Option Addr} {sl_x_law_fits : Array (Option Value)} (a_x_law_fits : PySem.W.nsIn K mainGlobals "_law_fits" = some (some (.ref f_x_law_fits))) (l_x_law_fits : K.lookup f_x_law_fits = some ⟨oc_x_law_fits, od_x_law_fits, .func (fdOf "_law_fits" s_x_law_fits kV_x_law_fits dc_x_law_fits pm_x_law_fits an_x_law_fits c_x_law_fits ct_x_law_fits), sl_x_law_fits⟩) (cd_x_law_fits : PySem.W.codeIn K (.ref c_x_law_fits) "_law_fits" = true) (k_x_law_fits : PySem.W.keepIn K (.ref f_x_law_fits) = true)
    {f_x_law_word c_x_law_word : Addr} {oc_x_law_word kV_x_law_word dc_x_law_word pm_x_law_word ct_x_law_word : Value} {od_x_law_word an_x_law_word : Option Addr} {sl_x_law_word : Array (Option Value)} (a_x_law_word : PySem.W.nsIn K mainGlobals "_law_word" = some (some (.ref f_x_law_word))) (l_x_law_word : K.lookup f_x_law_word = some ⟨oc_x_law_word, od_x_law_word, .func (fdOf "_law_word" s_x_law_word kV_x_law_word dc_x_law_word pm_x_law_word an_x_law_word c_x_law_word ct_x_law_word), sl_x_law_word⟩) (cd_x_law_word : PySem.W.codeIn K (.ref c_x_law_word) "_law_word" = true) (k_x_law_word : PySem.W.keepIn K (.ref f_x_law_word) = true)
    {f_x_is_within c_x_is_within : Addr} {oc_x_is_within kV_x_is_within dc_x_is_within pm_x_is_within ct_x_is_within : Value} {od_x_is_within an_x_is_within : Option Addr} {sl_x_is_within : Array (Option Value)} (a_x_is_within : PySem.W.nsIn K mainGlobals "is_within" = some (some (.ref f_x_is_within))) (l_x_is_within : K.lookup f_x_is_within = some ⟨oc_x_is_within, od_x_is_within, .func (fdOf "is_within" s_x_is_within kV_x_is_within dc_x_is_within pm_x_is_within an_x_is_within c_x_is_within ct_x_is_within), sl_x_is_within⟩) (cd_x_is_within : PySem.W.codeIn K (.ref c_x_is_within) "is_within" = true) (k_x_is_within : PySem.W.keepIn K (.ref f_x_is_within) = true)
    {f_x_law_state c_x_law_state : Addr} {oc_x_law_state kV_x_law_state dc_x_law_state pm_x_law_state ct_x_law_state : Value} {od_x_law_state an_x_law_state : Option Addr} {sl_x_law_state : Array (Option Value)} (a_x_law_state : PySem.W.nsIn K mainGlobals "_law_state" = some (some (.ref f_x_law_state))) (l_x_law_state : K.lookup f_x_law_state = some ⟨oc_x_law_state, od_x_law_state, .func (fdOf "_law_state" s_x_law_state kV_x_law_state dc_x_law_state pm_x_law_state an_x_law_state c_x_law_state ct_x_law_state), sl_x_law_state⟩) (cd_x_law_state : PySem.W.codeIn K (.ref c_x_law_state) "_law_state" = true) (k_x_law_state : PySem.W.keepIn K (.ref f_x_law_state) = true)
    {f_x_law_row c_x_law_row : Addr} {oc_x_law_row kV_x_law_row dc_x_law_row pm_x_law_row ct_x_law_row : Value} {od_x_law_row an_x_law_row : Option Addr} {sl_x_law_row : Array (Option Value)} (a_x_law_row : PySem.W.nsIn K mainGlobals "_law_row" = some (some (.ref f_x_law_row))) (l_x_law_row : K.lookup f_x_law_row = some ⟨oc_x_law_row, od_x_law_row, .func (fdOf "_law_row" s_x_law_row kV_x_law_row dc_x_law_row pm_x_law_row an_x_law_row c_x_law_row ct_x_law_row), sl_x_law_row⟩) (cd_x_law_row : PySem.W.codeIn K (.ref c_x_law_row) "_law_row" = true) (k_x_law_row : PySem.W.keepIn K (.ref f_x_law_row) = true)
    {f_x_law_no_hues c_x_law_no_hues : Addr} {oc_x_law_no_hues kV_x_law_no_hues dc_x_law_no_hues pm_x_law_no_hues ct_x_law_no_hues : Value} {od_x_law_no_hues an_x_law_no_hues : Option Addr} {sl_x_law_no_hues : Array (Option Value)} (a_x_law_no_hues : PySem.W.nsIn K mainGlobals "_law_no_hues" = some (some (.ref f_x_law_no_hues))) (l_x_law_no_hues : K.lookup f_x_law_no_hues = some ⟨oc_x_law_no_hues, od_x_law_no_hues, .func (fdOf "_law_no_hues" s_x_law_no_hues kV_x_law_no_hues dc_x_law_no_hues pm_x_law_no_hues an_x_law_no_hues c_x_law_no_hues ct_x_law_no_hues), sl_x_law_no_hues⟩) (cd_x_law_no_hues : PySem.W.codeIn K (.ref c_x_law_no_hues) "_law_no_hues" = true) (k_x_law_no_hues : PySem.W.keepIn K (.ref f_x_law_no_hues) = true)
    {f_x_law_no_rule c_x_law_no_rule : Addr} {oc_x_law_no_rule kV_x_law_no_rule dc_x_law_no_rule pm_x_law_no_rule ct_x_law_no_rule : Value} {od_x_law_no_rule an_x_law_no_rule : Option Addr} {sl_x_law_no_rule : Array (Option Value)} (a_x_law_no_rule : PySem.W.nsIn K mainGlobals "_law_no_rule" = some (some (.ref f_x_law_no_rule))) (l_x_law_no_rule : K.lookup f_x_law_no_rule = some ⟨oc_x_law_no_rule, od_x_law_no_rule, .func (fdOf "_law_no_rule" s_x_law_no_rule kV_x_law_no_rule dc_x_law_no_rule pm_x_law_no_rule an_x_law_no_rule c_x_law_no_rule ct_x_law_no_rule), sl_x_law_no_rule⟩) (cd_x_law_no_rule : PySem.W.codeIn K (.ref c_x_law_no_rule) "_law_no_rule" = true) (k_x_law_no_rule : PySem.W.keepIn K (.ref f_x_law_no_rule) = true)
    {f_x_is_hue c_x_is_hue : Addr} {oc_x_is_hue kV_x_is_hue dc_x_is_hue pm_x_is_hue ct_x_is_hue : Value} {od_x_is_hue an_x_is_hue : Option Addr} {sl_x_is_hue : Array (Option Value)} (a_x_is_hue : PySem.W.nsIn K mainGlobals "is_hue" = some (some (.ref f_x_is_hue))) (l_x_is_hue : K.lookup f_x_is_hue = some ⟨oc_x_is_hue, od_x_is_hue, .func (fdOf "is_hue" s_x_is_hue kV_x_is_hue dc_x_is_hue pm_x_is_hue an_x_is_hue c_x_is_hue ct_x_is_hue), sl_x_is_hue⟩) (cd_x_is_hue : PySem.W.codeIn K (.ref c_x_is_hue) "is_hue" = true) (k_x_is_hue : PySem.W.keepIn K (.ref f_x_is_hue) = true)
    {f_x_check_hues c_x_check_hues : Addr} {oc_x_check_hues kV_x_check_hues dc_x_check_hues pm_x_check_hues ct_x_check_hues : Value} {od_x_check_hues an_x_check_hues : Option Addr} {sl_x_check_hues : Array (Option Value)} (a_x_check_hues : PySem.W.nsIn K mainGlobals "check_hues" = some (some (.ref f_x_check_hues))) (l_x_check_hues : K.lookup f_x_check_hues = some ⟨oc_x_check_hues, od_x_check_hues, .func (fdOf "check_hues" s_x_check_hues kV_x_check_hues dc_x_check_hues pm_x_check_hues an_x_check_hues c_x_check_hues ct_x_check_hues), sl_x_check_hues⟩) (cd_x_check_hues : PySem.W.codeIn K (.ref c_x_check_hues) "check_hues" = true) (k_x_check_hues : PySem.W.keepIn K (.ref f_x_check_hues) = true)
    {f_x_law_no_row c_x_law_no_row : Addr} {oc_x_law_no_row kV_x_law_no_row dc_x_law_no_row pm_x_law_no_row ct_x_law_no_row : Value} {od_x_law_no_row an_x_law_no_row : Option Addr} {sl_x_law_no_row : Array (Option Value)} (a_x_law_no_row : PySem.W.nsIn K mainGlobals "_law_no_row" = some (some (.ref f_x_law_no_row))) (l_x_law_no_row : K.lookup f_x_law_no_row = some ⟨oc_x_law_no_row, od_x_law_no_row, .func (fdOf "_law_no_row" s_x_law_no_row kV_x_law_no_row dc_x_law_no_row pm_x_law_no_row an_x_law_no_row c_x_law_no_row ct_x_law_no_row), sl_x_law_no_row⟩) (cd_x_law_no_row : PySem.W.codeIn K (.ref c_x_law_no_row) "_law_no_row" = true) (k_x_law_no_row : PySem.W.keepIn K (.ref f_x_law_no_row) = true)
    {f_x_is_half_row c_x_is_half_row : Addr} {oc_x_is_half_row kV_x_is_half_row dc_x_is_half_row pm_x_is_half_row ct_x_is_half_row : Value} {od_x_is_half_row an_x_is_half_row : Option Addr} {sl_x_is_half_row : Array (Option Value)} (a_x_is_half_row : PySem.W.nsIn K mainGlobals "is_half_row" = some (some (.ref f_x_is_half_row))) (l_x_is_half_row : K.lookup f_x_is_half_row = some ⟨oc_x_is_half_row, od_x_is_half_row, .func (fdOf "is_half_row" s_x_is_half_row kV_x_is_half_row dc_x_is_half_row pm_x_is_half_row an_x_is_half_row c_x_is_half_row ct_x_is_half_row), sl_x_is_half_row⟩) (cd_x_is_half_row : PySem.W.codeIn K (.ref c_x_is_half_row) "is_half_row" = true) (k_x_is_half_row : PySem.W.keepIn K (.ref f_x_is_half_row) = true)
    {f_x_is_full_row c_x_is_full_row : Addr} {oc_x_is_full_row kV_x_is_full_row dc_x_is_full_row pm_x_is_full_row ct_x_is_full_row : Value} {od_x_is_full_row an_x_is_full_row : Option Addr} {sl_x_is_full_row : Array (Option Value)} (a_x_is_full_row : PySem.W.nsIn K mainGlobals "is_full_row" = some (some (.ref f_x_is_full_row))) (l_x_is_full_row : K.lookup f_x_is_full_row = some ⟨oc_x_is_full_row, od_x_is_full_row, .func (fdOf "is_full_row" s_x_is_full_row kV_x_is_full_row dc_x_is_full_row pm_x_is_full_row an_x_is_full_row c_x_is_full_row ct_x_is_full_row), sl_x_is_full_row⟩) (cd_x_is_full_row : PySem.W.codeIn K (.ref c_x_is_full_row) "is_full_row" = true) (k_x_is_full_row : PySem.W.keepIn K (.ref f_x_is_full_row) = true)
    {f_x_check_row c_x_check_row : Addr} {oc_x_check_row kV_x_check_row dc_x_check_row pm_x_check_row ct_x_check_row : Value} {od_x_check_row an_x_check_row : Option Addr} {sl_x_check_row : Array (Option Value)} (a_x_check_row : PySem.W.nsIn K mainGlobals "check_row" = some (some (.ref f_x_check_row))) (l_x_check_row : K.lookup f_x_check_row = some ⟨oc_x_check_row, od_x_check_row, .func (fdOf "check_row" s_x_check_row kV_x_check_row dc_x_check_row pm_x_check_row an_x_check_row c_x_check_row ct_x_check_row), sl_x_check_row⟩) (cd_x_check_row : PySem.W.codeIn K (.ref c_x_check_row) "check_row" = true) (k_x_check_row : PySem.W.keepIn K (.ref f_x_check_row) = true)
    {f_x_check_ruled_row c_x_check_ruled_row : Addr} {oc_x_check_ruled_row kV_x_check_ruled_row dc_x_check_ruled_row pm_x_check_ruled_row ct_x_check_ruled_row : Value} {od_x_check_ruled_row an_x_check_ruled_row : Option Addr} {sl_x_check_ruled_row : Array (Option Value)} (a_x_check_ruled_row : PySem.W.nsIn K mainGlobals "check_ruled_row" = some (some (.ref f_x_check_ruled_row))) (l_x_check_ruled_row : K.lookup f_x_check_ruled_row = some ⟨oc_x_check_ruled_row, od_x_check_ruled_row, .func (fdOf "check_ruled_row" s_x_check_ruled_row kV_x_check_ruled_row dc_x_check_ruled_row pm_x_check_ruled_row an_x_check_ruled_row c_x_check_ruled_row ct_x_check_ruled_row), sl_x_check_ruled_row⟩) (cd_x_check_ruled_row : PySem.W.codeIn K (.ref c_x_check_ruled_row) "check_ruled_row" = true) (k_x_check_ruled_row : PySem.W.keepIn K (.ref f_x_check_ruled_row) = true)
    {f_x_check_row_of c_x_check_row_of : Addr} {oc_x_check_row_of kV_x_check_row_of dc_x_check_row_of pm_x_check_row_of ct_x_check_row_of : Value} {od_x_check_row_of an_x_check_row_of : Option Addr} {sl_x_check_row_of : Array (Option Value)} (a_x_check_row_of : PySem.W.nsIn K mainGlobals "check_row_of" = some (some (.ref f_x_check_row_of))) (l_x_check_row_of : K.lookup f_x_check_row_of = some ⟨oc_x_check_row_of, od_x_check_row_of, .func (fdOf "check_row_of" s_x_check_row_of kV_x_check_row_of dc_x_check_row_of pm_x_check_row_of an_x_check_row_of c_x_check_row_of ct_x_check_row_of), sl_x_check_row_of⟩) (cd_x_check_row_of : PySem.W.codeIn K (.ref c_x_check_row_of) "check_row_of" = true) (k_x_check_row_of : PySem.W.keepIn K (.ref f_x_check_row_of) = true)
    {f_x_laid c_x_laid : Addr} {oc_x_laid kV_x_laid dc_x_laid pm_x_laid ct_x_laid : Value} {od_x_laid an_x_laid : Option Addr} {sl_x_laid : Array (Option Value)} (a_x_laid : PySem.W.nsIn K mainGlobals "laid" = some (some (.ref f_x_laid))) (l_x_laid : K.lookup f_x_laid = some ⟨oc_x_laid, od_x_laid, .func (fdOf "laid" s_x_laid kV_x_laid dc_x_laid pm_x_laid an_x_laid c_x_laid ct_x_laid), sl_x_laid⟩) (cd_x_laid : PySem.W.codeIn K (.ref c_x_laid) "laid" = true) (k_x_laid : PySem.W.keepIn K (.ref f_x_laid) = true)
    {f_x_mirrored c_x_mirrored : Addr} {oc_x_mirrored kV_x_mirrored dc_x_mirrored pm_x_mirrored ct_x_mirrored : Value} {od_x_mirrored an_x_mirrored : Option Addr} {sl_x_mirrored : Array (Option Value)} (a_x_mirrored : PySem.W.nsIn K mainGlobals "mirrored" = some (some (.ref f_x_mirrored))) (l_x_mirrored : K.lookup f_x_mirrored = some ⟨oc_x_mirrored, od_x_mirrored, .func (fdOf "mirrored" s_x_mirrored kV_x_mirrored dc_x_mirrored pm_x_mirrored an_x_mirrored c_x_mirrored ct_x_mirrored), sl_x_mirrored⟩) (cd_x_mirrored : PySem.W.codeIn K (.ref c_x_mirrored) "mirrored" = true) (k_x_mirrored : PySem.W.keepIn K (.ref f_x_mirrored) = true)
    {f_x_round_clashes c_x_round_clashes : Addr} {oc_x_round_clashes kV_x_round_clashes dc_x_round_clashes pm_x_round_clashes ct_x_round_clashes : Value} {od_x_round_clashes an_x_round_clashes : Option Addr} {sl_x_round_clashes : Array (Option Value)} (a_x_round_clashes : PySem.W.nsIn K mainGlobals "round_clashes" = some (some (.ref f_x_round_clashes))) (l_x_round_clashes : K.lookup f_x_round_clashes = some ⟨oc_x_round_clashes, od_x_round_clashes, .func (fdOf "round_clashes" s_x_round_clashes kV_x_round_clashes dc_x_round_clashes pm_x_round_clashes an_x_round_clashes c_x_round_clashes ct_x_round_clashes), sl_x_round_clashes⟩) (cd_x_round_clashes : PySem.W.codeIn K (.ref c_x_round_clashes) "round_clashes" = true) (k_x_round_clashes : PySem.W.keepIn K (.ref f_x_round_clashes) = true)
    {f_x_led_round c_x_led_round : Addr} {oc_x_led_round kV_x_led_round dc_x_led_round pm_x_led_round ct_x_led_round : Value} {od_x_led_round an_x_led_round : Option Addr} {sl_x_led_round : Array (Option Value)} (a_x_led_round : PySem.W.nsIn K mainGlobals "led_round" = some (some (.ref f_x_led_round))) (l_x_led_round : K.lookup f_x_led_round = some ⟨oc_x_led_round, od_x_led_round, .func (fdOf "led_round" s_x_led_round kV_x_led_round dc_x_led_round pm_x_led_round an_x_led_round c_x_led_round ct_x_led_round), sl_x_led_round⟩) (cd_x_led_round : PySem.W.codeIn K (.ref c_x_led_round) "led_round" = true) (k_x_led_round : PySem.W.keepIn K (.ref f_x_led_round) = true)
    {f_x_spread c_x_spread : Addr} {oc_x_spread kV_x_spread dc_x_spread pm_x_spread ct_x_spread : Value} {od_x_spread an_x_spread : Option Addr} {sl_x_spread : Array (Option Value)} (a_x_spread : PySem.W.nsIn K mainGlobals "spread" = some (some (.ref f_x_spread))) (l_x_spread : K.lookup f_x_spread = some ⟨oc_x_spread, od_x_spread, .func (fdOf "spread" s_x_spread kV_x_spread dc_x_spread pm_x_spread an_x_spread c_x_spread ct_x_spread), sl_x_spread⟩) (cd_x_spread : PySem.W.codeIn K (.ref c_x_spread) "spread" = true) (k_x_spread : PySem.W.keepIn K (.ref f_x_spread) = true)
    {f_x_is_settled c_x_is_settled : Addr} {oc_x_is_settled kV_x_is_settled dc_x_is_settled pm_x_is_settled ct_x_is_settled : Value} {od_x_is_settled an_x_is_settled : Option Addr} {sl_x_is_settled : Array (Option Value)} (a_x_is_settled : PySem.W.nsIn K mainGlobals "is_settled" = some (some (.ref f_x_is_settled))) (l_x_is_settled : K.lookup f_x_is_settled = some ⟨oc_x_is_settled, od_x_is_settled, .func (fdOf "is_settled" s_x_is_settled kV_x_is_settled dc_x_is_settled pm_x_is_settled an_x_is_settled c_x_is_settled ct_x_is_settled), sl_x_is_settled⟩) (cd_x_is_settled : PySem.W.codeIn K (.ref c_x_is_settled) "is_settled" = true) (k_x_is_settled : PySem.W.keepIn K (.ref f_x_is_settled) = true)
    {f_x_led_down c_x_led_down : Addr} {oc_x_led_down kV_x_led_down dc_x_led_down pm_x_led_down ct_x_led_down : Value} {od_x_led_down an_x_led_down : Option Addr} {sl_x_led_down : Array (Option Value)} (a_x_led_down : PySem.W.nsIn K mainGlobals "led_down" = some (some (.ref f_x_led_down))) (l_x_led_down : K.lookup f_x_led_down = some ⟨oc_x_led_down, od_x_led_down, .func (fdOf "led_down" s_x_led_down kV_x_led_down dc_x_led_down pm_x_led_down an_x_led_down c_x_led_down ct_x_led_down), sl_x_led_down⟩) (cd_x_led_down : PySem.W.codeIn K (.ref c_x_led_down) "led_down" = true) (k_x_led_down : PySem.W.keepIn K (.ref f_x_led_down) = true)
    {f_x_is_mirrored c_x_is_mirrored : Addr} {oc_x_is_mirrored kV_x_is_mirrored dc_x_is_mirrored pm_x_is_mirrored ct_x_is_mirrored : Value} {od_x_is_mirrored an_x_is_mirrored : Option Addr} {sl_x_is_mirrored : Array (Option Value)} (a_x_is_mirrored : PySem.W.nsIn K mainGlobals "is_mirrored" = some (some (.ref f_x_is_mirrored))) (l_x_is_mirrored : K.lookup f_x_is_mirrored = some ⟨oc_x_is_mirrored, od_x_is_mirrored, .func (fdOf "is_mirrored" s_x_is_mirrored kV_x_is_mirrored dc_x_is_mirrored pm_x_is_mirrored an_x_is_mirrored c_x_is_mirrored ct_x_is_mirrored), sl_x_is_mirrored⟩) (cd_x_is_mirrored : PySem.W.codeIn K (.ref c_x_is_mirrored) "is_mirrored" = true) (k_x_is_mirrored : PySem.W.keepIn K (.ref f_x_is_mirrored) = true)
    {f_x_is_round c_x_is_round : Addr} {oc_x_is_round kV_x_is_round dc_x_is_round pm_x_is_round ct_x_is_round : Value} {od_x_is_round an_x_is_round : Option Addr} {sl_x_is_round : Array (Option Value)} (a_x_is_round : PySem.W.nsIn K mainGlobals "is_round" = some (some (.ref f_x_is_round))) (l_x_is_round : K.lookup f_x_is_round = some ⟨oc_x_is_round, od_x_is_round, .func (fdOf "is_round" s_x_is_round kV_x_is_round dc_x_is_round pm_x_is_round an_x_is_round c_x_is_round ct_x_is_round), sl_x_is_round⟩) (cd_x_is_round : PySem.W.codeIn K (.ref c_x_is_round) "is_round" = true) (k_x_is_round : PySem.W.keepIn K (.ref f_x_is_round) = true)
    {f_x_law_doors_right c_x_law_doors_right : Addr} {oc_x_law_doors_right kV_x_law_doors_right dc_x_law_doors_right pm_x_law_doors_right ct_x_law_doors_right : Value} {od_x_law_doors_right an_x_law_doors_right : Option Addr} {sl_x_law_doors_right : Array (Option Value)} (a_x_law_doors_right : PySem.W.nsIn K mainGlobals "_law_doors_right" = some (some (.ref f_x_law_doors_right))) (l_x_law_doors_right : K.lookup f_x_law_doors_right = some ⟨oc_x_law_doors_right, od_x_law_doors_right, .func (fdOf "_law_doors_right" s_x_law_doors_right kV_x_law_doors_right dc_x_law_doors_right pm_x_law_doors_right an_x_law_doors_right c_x_law_doors_right ct_x_law_doors_right), sl_x_law_doors_right⟩) (cd_x_law_doors_right : PySem.W.codeIn K (.ref c_x_law_doors_right) "_law_doors_right" = true) (k_x_law_doors_right : PySem.W.keepIn K (.ref f_x_law_doors_right) = true)
    {f_x_law_laid_right c_x_law_laid_right : Addr} {oc_x_law_laid_right kV_x_law_laid_right dc_x_law_laid_right pm_x_law_laid_right ct_x_law_laid_right : Value} {od_x_law_laid_right an_x_law_laid_right : Option Addr} {sl_x_law_laid_right : Array (Option Value)} (a_x_law_laid_right : PySem.W.nsIn K mainGlobals "_law_laid_right" = some (some (.ref f_x_law_laid_right))) (l_x_law_laid_right : K.lookup f_x_law_laid_right = some ⟨oc_x_law_laid_right, od_x_law_laid_right, .func (fdOf "_law_laid_right" s_x_law_laid_right kV_x_law_laid_right dc_x_law_laid_right pm_x_law_laid_right an_x_law_laid_right c_x_law_laid_right ct_x_law_laid_right), sl_x_law_laid_right⟩) (cd_x_law_laid_right : PySem.W.codeIn K (.ref c_x_law_laid_right) "_law_laid_right" = true) (k_x_law_laid_right : PySem.W.keepIn K (.ref f_x_law_laid_right) = true)
    {f_x_law c_x_law : Addr} {oc_x_law kV_x_law dc_x_law pm_x_law ct_x_law : Value} {od_x_law an_x_law : Option Addr} {sl_x_law : Array (Option Value)} (a_x_law : PySem.W.nsIn K mainGlobals "law" = some (some (.ref f_x_law))) (l_x_law : K.lookup f_x_law = some ⟨oc_x_law, od_x_law, .func (fdOf "law" s_x_law kV_x_law dc_x_law pm_x_law an_x_law c_x_law ct_x_law), sl_x_law⟩) (cd_x_law : PySem.W.codeIn K (.ref c_x_law) "law" = true) (k_x_law : PySem.W.keepIn K (.ref f_x_law) = true)
    {t_MOST_HUES : Tok} (z_MOST_HUES : PySem.W.nsIn K mainGlobals "MOST_HUES" = some (some (.int 3 t_MOST_HUES)))
    {t_MOST_NUMBERS : Tok} (z_MOST_NUMBERS : PySem.W.nsIn K mainGlobals "MOST_NUMBERS" = some (some (.int 30 t_MOST_NUMBERS)))
    {r_RULES : Addr} {u_RULES v_RULES : Tok} {n_RULES : Nat} {sl_RULES : Array (Option Value)} (z_RULES : PySem.W.nsIn K mainGlobals "RULES" = some (some (.ref r_RULES))) (y_RULES : K.lookup r_RULES = some ⟨.type "tuple", none, .seq #[.str "any" u_RULES, .str "unlike" v_RULES] n_RULES, sl_RULES⟩)
    (q_HueError : PySem.W.nsIn K mainGlobals "HueError" = some (some (.ref 24)))
    (q_NoHues : PySem.W.nsIn K mainGlobals "NoHues" = some (some (.ref 37)))
    (q_NoRow : PySem.W.nsIn K mainGlobals "NoRow" = some (some (.ref 49)))
    (q_NoRule : PySem.W.nsIn K mainGlobals "NoRule" = some (some (.ref 61)))
    (q_NoNumber : PySem.W.nsIn K mainGlobals "NoNumber" = some (some (.ref 73)))
    (q_NoHue : PySem.W.nsIn K mainGlobals "NoHue" = some (some (.ref 85)))
    (q_NoLot : PySem.W.nsIn K mainGlobals "NoLot" = some (some (.ref 97)))
    (q_NoStep : PySem.W.nsIn K mainGlobals "NoStep" = some (some (.ref 109)))
    (q_NoPaper : PySem.W.nsIn K mainGlobals "NoPaper" = some (some (.ref 121)))
    (q_NoClean : PySem.W.nsIn K mainGlobals "NoClean" = some (some (.ref 133)))
    (q_TooMany : PySem.W.nsIn K mainGlobals "TooMany" = some (some (.ref 145)))
    (q_NoText : PySem.W.nsIn K mainGlobals "NoText" = some (some (.ref 157)))
    (q_NoLine : PySem.W.nsIn K mainGlobals "NoLine" = some (some (.ref 169)))
    (q_NoDeed : PySem.W.nsIn K mainGlobals "NoDeed" = some (some (.ref 181)))
    (u_round_clashes : PySem.W.nsIn K mainGlobals "round_clashes" = some (some (.ref 330)))
    (u_is_round : PySem.W.nsIn K mainGlobals "is_round" = some (some (.ref 342)))
    (u_is_settled : PySem.W.nsIn K mainGlobals "is_settled" = some (some (.ref 387)))
    (u_led_down : PySem.W.nsIn K mainGlobals "led_down" = some (some (.ref 394)))
    (b_ValueError : PySem.W.nsIn K mainGlobals "ValueError" = some none)
    (b_all : PySem.W.nsIn K mainGlobals "all" = some none)
    (b_bool : PySem.W.nsIn K mainGlobals "bool" = some none)
    (b_int : PySem.W.nsIn K mainGlobals "int" = some none)
    (b_isinstance : PySem.W.nsIn K mainGlobals "isinstance" = some none)
    (b_len : PySem.W.nsIn K mainGlobals "len" = some none)
    (b_list : PySem.W.nsIn K mainGlobals "list" = some none)
    (b_max : PySem.W.nsIn K mainGlobals "max" = some none)
    (b_min : PySem.W.nsIn K mainGlobals "min" = some none)
    (b_range : PySem.W.nsIn K mainGlobals "range" = some none)
    (b_tuple : PySem.W.nsIn K mainGlobals "tuple" = some none)
    (herr : SX.errB K 24 cls = true)
    (t_x_is_half_row : (c_x_is_half_row, 207) ∈ tabs)
    (t_x_law_doors_right : (c_x_law_doors_right, 457) ∈ tabs)
    (t_x_law_laid_right : (c_x_law_laid_right, 464) ∈ tabs)
    : ∃ fd : FuncData, (∀ (s : Shared) (u : Value), BindsTo s fd ⟨[u], []⟩ [("_law_script", u)]) ∧ ∀ base : Heap, K.In base → base.Ns mainGlobals mg → SG.Bm base mg → (∀ q ∈ tabs, SG.CodeHd base q.1 q.2) → FnOk l.prog w K mg base CX0 15 fa fd ["_law_script"] (spM JJ0 K 1 (SX.topF fm_x_law)) := by
  have e := hfa.symm.trans (PySem.W.mg_of X G a_x_law)
  cases e
  have T : Txt K mg := ⟨PySem.W.mg_none_of X G b_ValueError, PySem.W.mg_none_of X G b_all, PySem.W.mg_none_of X G b_bool, PySem.W.mg_none_of X G b_int, PySem.W.mg_none_of X G b_isinstance, PySem.W.mg_none_of X G b_len, PySem.W.mg_none_of X G b_list, PySem.W.mg_none_of X G b_max, PySem.W.mg_none_of X G b_min, PySem.W.mg_none_of X G b_range, PySem.W.mg_none_of X G b_tuple, fun a b c => ⟨SX.g_intE (PySem.W.mg_of X G z_MOST_HUES) (by decide) a b c⟩, fun a b c => ⟨SX.g_intE (PySem.W.mg_of X G z_MOST_NUMBERS) (by decide) a b c⟩, fun a b c => ⟨SX.g_strsE (PySem.W.mg_of X G z_RULES) y_RULES (by decide) a b c⟩, PySem.W.mg_of X G q_HueError, PySem.W.mg_of X G q_NoHues, PySem.W.mg_of X G q_NoRow, PySem.W.mg_of X G q_NoRule, PySem.W.mg_of X G q_NoNumber, PySem.W.mg_of X G q_NoHue, PySem.W.mg_of X G q_NoLot, PySem.W.mg_of X G q_NoStep, PySem.W.mg_of X G q_NoPaper, PySem.W.mg_of X G q_NoClean, PySem.W.mg_of X G q_TooMany, PySem.W.mg_of X G q_NoText, PySem.W.mg_of X G q_NoLine, PySem.W.mg_of X G q_NoDeed, PySem.W.mg_of X G u_round_clashes, PySem.W.mg_of X G u_is_round, PySem.W.mg_of X G u_is_settled, PySem.W.mg_of X G u_led_down, SX.err_of herr⟩
  refine ⟨fdOf "law" s_x_law kV_x_law dc_x_law pm_x_law an_x_law c_x_law ct_x_law, fun s u => .of_eq rfl, fun base hK hN hbm hcd => ?_⟩
  have C_x_is_whole : SX.CalX (JJ mg) l.prog w K mg base "is_whole" f_x_is_whole (fdOf "is_whole" s_x_is_whole kV_x_is_whole dc_x_is_whole pm_x_is_whole an_x_is_whole c_x_is_whole ct_x_is_whole) 1 ["thing"] fm_x_is_whole := ⟨ok_x_is_whole (funC_mk l_x_is_whole cd_x_is_whole k_x_is_whole) T , PySem.W.mg_of X G a_x_is_whole, k_x_is_whole, .all fun us hl => match us, hl with | [_], _ => rfl⟩
  have C_x_check_rule : SX.CalX (JJ mg) l.prog w K mg base "check_rule" f_x_check_rule (fdOf "check_rule" s_x_check_rule kV_x_check_rule dc_x_check_rule pm_x_check_rule an_x_check_rule c_x_check_rule ct_x_check_rule) 1 ["rule"] fm_x_check_rule := ⟨ok_x_check_rule (funC_mk l_x_check_rule cd_x_check_rule k_x_check_rule) T , PySem.W.mg_of X G a_x_check_rule, k_x_check_rule, .all fun us hl => match us, hl with | [_], _ => rfl⟩
  have C_x_width_of : SX.CalX (JJ mg) l.prog w K mg base "width_of" f_x_width_of (fdOf "width_of" s_x_width_of kV_x_width_of dc_x_width_of pm_x_width_of an_x_width_of c_x_width_of ct_x_width_of) 1 ["row"] fm_x_width_of := ⟨ok_x_width_of (funC_mk l_x_width_of cd_x_width_of k_x_width_of) T , PySem.W.mg_of X G a_x_width_of, k_x_width_of, .all fun us hl => match us, hl with | [_], _ => rfl⟩
  have C_x_law_cell_at : SX.CalX (JJ mg) l.prog w K mg base "_law_cell_at" f_x_law_cell_at (fdOf "_law_cell_at" s_x_law_cell_at kV_x_law_cell_at dc_x_law_cell_at pm_x_law_cell_at an_x_law_cell_at c_x_law_cell_at ct_x_law_cell_at) 1 ["_law_script", "_law_k"] fm_x_law_cell_at := ⟨ok_x_law_cell_at (funC_mk l_x_law_cell_at cd_x_law_cell_at k_x_law_cell_at) T , PySem.W.mg_of X G a_x_law_cell_at, k_x_law_cell_at, .all fun us hl => match us, hl with | [_, _], _ => rfl⟩
  have C_x_law_take : SX.CalX (JJ mg) l.prog w K mg base "_law_take" f_x_law_take (fdOf "_law_take" s_x_law_take kV_x_law_take dc_x_law_take pm_x_law_take an_x_law_take c_x_law_take ct_x_law_take) 1 ["_law_state_here", "_law_many"] fm_x_law_take := ⟨ok_x_law_take (funC_mk l_x_law_take cd_x_law_take k_x_law_take) T , PySem.W.mg_of X G a_x_law_take, k_x_law_take, .all fun us hl => match us, hl with | [_, _], _ => rfl⟩
  have C_x_law_fits : SX.CalX (JJ mg) l.prog w K mg base "_law_fits" f_x_law_fits (fdOf "_law_fits" s_x_law_fits kV_x_law_fits dc_x_law_fits pm_x_law_fits an_x_law_fits c_x_law_fits ct_x_law_fits) 1 ["_law_row_here", "_law_hue", "_law_rule"] fm_x_law_fits := ⟨ok_x_law_fits (funC_mk l_x_law_fits cd_x_law_fits k_x_law_fits) T , PySem.W.mg_of X G a_x_law_fits, k_x_law_fits, .all fun us hl => match us, hl with | [_, _, _], _ => rfl⟩
  have W_x_law_word : SX.WordRun (JJ mg) cls.length l.prog w K mg base f_x_law_word N_x_law_word "_law_word" (defScope s_x_law_word) (.ref c_x_law_word) 12 1 m_x_law_word := wr_x_law_word (funC_mk l_x_law_word cd_x_law_word k_x_law_word) (fun s u => .of_eq rfl) T 
  have C_x_is_within : SX.CalX (JJ mg) l.prog w K mg base "is_within" f_x_is_within (fdOf "is_within" s_x_is_within kV_x_is_within dc_x_is_within pm_x_is_within an_x_is_within c_x_is_within ct_x_is_within) 2 ["thing", "low", "high"] fm_x_is_within := ⟨ok_x_is_within (funC_mk l_x_is_within cd_x_is_within k_x_is_within) T C_x_is_whole, PySem.W.mg_of X G a_x_is_within, k_x_is_within, .all fun us hl => match us, hl with | [_, _, _], _ => rfl⟩
  have C_x_law_state : SX.CalX (JJ mg) l.prog w K mg base "_law_state" f_x_law_state (fdOf "_law_state" s_x_law_state kV_x_law_state dc_x_law_state pm_x_law_state an_x_law_state c_x_law_state ct_x_law_state) 2 ["_law_script", "_law_k"] fm_x_law_state := ⟨ok_x_law_state (funC_mk l_x_law_state cd_x_law_state k_x_law_state) T C_x_law_cell_at, PySem.W.mg_of X G a_x_law_state, k_x_law_state, .all fun us hl => match us, hl with | [_, _], _ => rfl⟩
  have C_x_law_row : SX.CalX (JJ mg) l.prog w K mg base "_law_row" f_x_law_row (fdOf "_law_row" s_x_law_row kV_x_law_row dc_x_law_row pm_x_law_row an_x_law_row c_x_law_row ct_x_law_row) 2 ["_law_state_here", "_law_hues", "_law_many"] fm_x_law_row := ⟨ok_x_law_row (funC_mk l_x_law_row cd_x_law_row k_x_law_row) T C_x_law_take C_x_law_fits, PySem.W.mg_of X G a_x_law_row, k_x_law_row, .all fun us hl => match us, hl with | [_, _, _], _ => rfl⟩
  have C_x_law_no_hues : SX.CalX (JJ mg) l.prog w K mg base "_law_no_hues" f_x_law_no_hues (fdOf "_law_no_hues" s_x_law_no_hues kV_x_law_no_hues dc_x_law_no_hues pm_x_law_no_hues an_x_law_no_hues c_x_law_no_hues ct_x_law_no_hues) 2 ["_law_state_here"] fm_x_law_no_hues := ⟨ok_x_law_no_hues (funC_mk l_x_law_no_hues cd_x_law_no_hues k_x_law_no_hues) T C_x_law_take, PySem.W.mg_of X G a_x_law_no_hues, k_x_law_no_hues, .all fun us hl => match us, hl with | [_], _ => rfl⟩
  have C_x_law_no_rule : SX.CalX (JJ mg) l.prog w K mg base "_law_no_rule" f_x_law_no_rule (fdOf "_law_no_rule" s_x_law_no_rule kV_x_law_no_rule dc_x_law_no_rule pm_x_law_no_rule an_x_law_no_rule c_x_law_no_rule ct_x_law_no_rule) 2 ["_law_state_here"] fm_x_law_no_rule := ⟨ok_x_law_no_rule (funC_mk l_x_law_no_rule cd_x_law_no_rule k_x_law_no_rule) T C_x_law_take, PySem.W.mg_of X G a_x_law_no_rule, k_x_law_no_rule, .all fun us hl => match us, hl with | [_], _ => rfl⟩
  have C_x_is_hue : SX.CalX (JJ mg) l.prog w K mg base "is_hue" f_x_is_hue (fdOf "is_hue" s_x_is_hue kV_x_is_hue dc_x_is_hue pm_x_is_hue an_x_is_hue c_x_is_hue ct_x_is_hue) 3 ["hues", "thing"] fm_x_is_hue := ⟨ok_x_is_hue (funC_mk l_x_is_hue cd_x_is_hue k_x_is_hue) T C_x_is_within, PySem.W.mg_of X G a_x_is_hue, k_x_is_hue, .all fun us hl => match us, hl with | [_, _], _ => rfl⟩
  have C_x_check_hues : SX.CalX (JJ mg) l.prog w K mg base "check_hues" f_x_check_hues (fdOf "check_hues" s_x_check_hues kV_x_check_hues dc_x_check_hues pm_x_check_hues an_x_check_hues c_x_check_hues ct_x_check_hues) 3 ["hues"] fm_x_check_hues := ⟨ok_x_check_hues (funC_mk l_x_check_hues cd_x_check_hues k_x_check_hues) T C_x_is_within, PySem.W.mg_of X G a_x_check_hues, k_x_check_hues, .all fun us hl => match us, hl with | [_], _ => rfl⟩
  have C_x_law_no_row : SX.CalX (JJ mg) l.prog w K mg base "_law_no_row" f_x_law_no_row (fdOf "_law_no_row" s_x_law_no_row kV_x_law_no_row dc_x_law_no_row pm_x_law_no_row an_x_law_no_row c_x_law_no_row ct_x_law_no_row) 3 ["_law_state_here", "_law_hues"] fm_x_law_no_row := ⟨ok_x_law_no_row (funC_mk l_x_law_no_row cd_x_law_no_row k_x_law_no_row) T C_x_law_take C_x_law_row, PySem.W.mg_of X G a_x_law_no_row, k_x_law_no_row, .all fun us hl => match us, hl with | [_, _], _ => rfl⟩
  have C_x_is_half_row : SX.CalX (JJ mg) l.prog w K mg base "is_half_row" f_x_is_half_row (fdOf "is_half_row" s_x_is_half_row kV_x_is_half_row dc_x_is_half_row pm_x_is_half_row an_x_is_half_row c_x_is_half_row ct_x_is_half_row) 5 ["hues", "thing"] fm_x_is_half_row := ⟨ok_x_is_half_row (funC_mk l_x_is_half_row cd_x_is_half_row k_x_is_half_row) T C_x_is_hue (Pt := 207) (hcd _ t_x_is_half_row) (show (207 : Addr) ∈ tabs.map (·.2) by decide) hbm rfl, PySem.W.mg_of X G a_x_is_half_row, k_x_is_half_row, .all fun us hl => match us, hl with | [_, _], _ => rfl⟩
  have C_x_is_full_row : SX.CalX (JJ mg) l.prog w K mg base "is_full_row" f_x_is_full_row (fdOf "is_full_row" s_x_is_full_row kV_x_is_full_row dc_x_is_full_row pm_x_is_full_row an_x_is_full_row c_x_is_full_row ct_x_is_full_row) 6 ["hues", "thing"] fm_x_is_full_row := ⟨ok_x_is_full_row (funC_mk l_x_is_full_row cd_x_is_full_row k_x_is_full_row) T C_x_is_half_row, PySem.W.mg_of X G a_x_is_full_row, k_x_is_full_row, .all fun us hl => match us, hl with | [_, _], _ => rfl⟩
  have C_x_check_row : SX.CalX (JJ mg) l.prog w K mg base "check_row" f_x_check_row (fdOf "check_row" s_x_check_row kV_x_check_row dc_x_check_row pm_x_check_row an_x_check_row c_x_check_row ct_x_check_row) 7 ["hues", "row"] fm_x_check_row := ⟨ok_x_check_row (funC_mk l_x_check_row cd_x_check_row k_x_check_row) T C_x_is_full_row, PySem.W.mg_of X G a_x_check_row, k_x_check_row, .all fun us hl => match us, hl with | [_, _], _ => rfl⟩
  have C_x_check_ruled_row : SX.CalX (JJ mg) l.prog w K mg base "check_ruled_row" f_x_check_ruled_row (fdOf "check_ruled_row" s_x_check_ruled_row kV_x_check_ruled_row dc_x_check_ruled_row pm_x_check_ruled_row an_x_check_ruled_row c_x_check_ruled_row ct_x_check_ruled_row) 8 ["hues", "row", "rule"] fm_x_check_ruled_row := ⟨ok_x_check_ruled_row (funC_mk l_x_check_ruled_row cd_x_check_ruled_row k_x_check_ruled_row) T C_x_check_hues C_x_check_row C_x_check_rule, PySem.W.mg_of X G a_x_check_ruled_row, k_x_check_ruled_row, .all fun us hl => match us, hl with | [_, _, _], _ => rfl⟩
  have C_x_check_row_of : SX.CalX (JJ mg) l.prog w K mg base "check_row_of" f_x_check_row_of (fdOf "check_row_of" s_x_check_row_of kV_x_check_row_of dc_x_check_row_of pm_x_check_row_of an_x_check_row_of c_x_check_row_of ct_x_check_row_of) 8 ["hues", "row"] fm_x_check_row_of := ⟨ok_x_check_row_of (funC_mk l_x_check_row_of cd_x_check_row_of k_x_check_row_of) T C_x_check_hues C_x_check_row, PySem.W.mg_of X G a_x_check_row_of, k_x_check_row_of, .all fun us hl => match us, hl with | [_, _], _ => rfl⟩
  have C_x_laid : SX.CalX (JJ mg) l.prog w K mg base "laid" f_x_laid (fdOf "laid" s_x_laid kV_x_laid dc_x_laid pm_x_laid an_x_laid c_x_laid ct_x_laid) 9 ["one", "row", "other", "more"] fm_x_laid := ⟨ok_x_laid (funC_mk l_x_laid cd_x_laid k_x_laid) T C_x_width_of C_x_check_row_of, PySem.W.mg_of X G a_x_laid, k_x_laid, .all fun us hl => match us, hl with | [_, _, _, _], _ => rfl⟩
  have C_x_mirrored : SX.CalX (JJ mg) l.prog w K mg base "mirrored" f_x_mirrored (fdOf "mirrored" s_x_mirrored kV_x_mirrored dc_x_mirrored pm_x_mirrored an_x_mirrored c_x_mirrored ct_x_mirrored) 9 ["hues", "row"] fm_x_mirrored := ⟨ok_x_mirrored (funC_mk l_x_mirrored cd_x_mirrored k_x_mirrored) T C_x_check_row_of, PySem.W.mg_of X G a_x_mirrored, k_x_mirrored, .all fun us hl => match us, hl with | [_, _], _ => rfl⟩
  have C_x_round_clashes : SX.CalX (JJ mg) l.prog w K mg base "round_clashes" f_x_round_clashes (fdOf "round_clashes" s_x_round_clashes kV_x_round_clashes dc_x_round_clashes pm_x_round_clashes an_x_round_clashes c_x_round_clashes ct_x_round_clashes) 9 ["hues", "row", "rule"] fm_x_round_clashes := ⟨ok_x_round_clashes (funC_mk l_x_round_clashes cd_x_round_clashes k_x_round_clashes) T C_x_check_ruled_row, PySem.W.mg_of X G a_x_round_clashes, k_x_round_clashes, .all fun us hl => match us, hl with | [_, _, _], _ => rfl⟩
  have C_x_led_round : SX.CalX (JJ mg) l.prog w K mg base "led_round" f_x_led_round (fdOf "led_round" s_x_led_round kV_x_led_round dc_x_led_round pm_x_led_round an_x_led_round c_x_led_round ct_x_led_round) 9 ["hues", "row", "by"] fm_x_led_round := ⟨ok_x_led_round (funC_mk l_x_led_round cd_x_led_round k_x_led_round) T C_x_check_row_of, PySem.W.mg_of X G a_x_led_round, k_x_led_round, .all fun us hl => match us, hl with | [_, _, _], _ => rfl⟩
  have C_x_spread : SX.CalX (JJ mg) l.prog w K mg base "spread" f_x_spread (fdOf "spread" s_x_spread kV_x_spread dc_x_spread pm_x_spread an_x_spread c_x_spread ct_x_spread) 9 ["hues", "row", "times"] fm_x_spread := ⟨ok_x_spread (funC_mk l_x_spread cd_x_spread k_x_spread) T C_x_check_row_of, PySem.W.mg_of X G a_x_spread, k_x_spread, .all fun us hl => match us, hl with | [_, _, _], _ => rfl⟩
  have C_x_is_settled : SX.CalX (JJ mg) l.prog w K mg base "is_settled" f_x_is_settled (fdOf "is_settled" s_x_is_settled kV_x_is_settled dc_x_is_settled pm_x_is_settled an_x_is_settled c_x_is_settled ct_x_is_settled) 9 ["hues", "row", "rule"] fm_x_is_settled := ⟨ok_x_is_settled (funC_mk l_x_is_settled cd_x_is_settled k_x_is_settled) T C_x_check_ruled_row, PySem.W.mg_of X G a_x_is_settled, k_x_is_settled, .all fun us hl => match us, hl with | [_, _, _], _ => rfl⟩
  have C_x_led_down : SX.CalX (JJ mg) l.prog w K mg base "led_down" f_x_led_down (fdOf "led_down" s_x_led_down kV_x_led_down dc_x_led_down pm_x_led_down an_x_led_down c_x_led_down ct_x_led_down) 9 ["hues", "row", "rule"] fm_x_led_down := ⟨ok_x_led_down (funC_mk l_x_led_down cd_x_led_down k_x_led_down) T C_x_check_ruled_row, PySem.W.mg_of X G a_x_led_down, k_x_led_down, .all fun us hl => match us, hl with | [_, _, _], _ => rfl⟩
  have C_x_is_mirrored : SX.CalX (JJ mg) l.prog w K mg base "is_mirrored" f_x_is_mirrored (fdOf "is_mirrored" s_x_is_mirrored kV_x_is_mirrored dc_x_is_mirrored pm_x_is_mirrored an_x_is_mirrored c_x_is_mirrored ct_x_is_mirrored) 10 ["hues", "row"] fm_x_is_mirrored := ⟨ok_x_is_mirrored (funC_mk l_x_is_mirrored cd_x_is_mirrored k_x_is_mirrored) T C_x_mirrored, PySem.W.mg_of X G a_x_is_mirrored, k_x_is_mirrored, .all fun us hl => match us, hl with | [_, _], _ => rfl⟩
  have C_x_is_round : SX.CalX (JJ mg) l.prog w K mg base "is_round" f_x_is_round (fdOf "is_round" s_x_is_round kV_x_is_round dc_x_is_round pm_x_is_round an_x_is_round c_x_is_round ct_x_is_round) 10 ["hues", "row", "rule"] fm_x_is_round := ⟨ok_x_is_round (funC_mk l_x_is_round cd_x_is_round k_x_is_round) T C_x_round_clashes, PySem.W.mg_of X G a_x_is_round, k_x_is_round, .all fun us hl => match us, hl with | [_, _, _], _ => rfl⟩
  have C_x_law_doors_right : SX.CalX (JJ mg) l.prog w K mg base "_law_doors_right" f_x_law_doors_right (fdOf "_law_doors_right" s_x_law_doors_right kV_x_law_doors_right dc_x_law_doors_right pm_x_law_doors_right an_x_law_doors_right c_x_law_doors_right ct_x_law_doors_right) 14 ["_law_state_here", "_law_hues", "_law_row_here"] fm_x_law_doors_right := ⟨ok_x_law_doors_right (funC_mk l_x_law_doors_right cd_x_law_doors_right k_x_law_doors_right) T C_x_law_no_rule C_x_law_no_row C_x_law_no_hues C_x_led_down C_x_is_settled C_x_is_round C_x_round_clashes C_x_spread C_x_led_round C_x_mirrored C_x_is_mirrored W_x_law_word (PySem.W.mg_of X G a_x_law_word) k_x_law_word (Pt := 457) (hcd _ t_x_law_doors_right) (show (457 : Addr) ∈ tabs.map (·.2) by decide) hbm rfl, PySem.W.mg_of X G a_x_law_doors_right, k_x_law_doors_right, .all fun us hl => match us, hl with | [_, _, _], _ => rfl⟩
  have C_x_law_laid_right : SX.CalX (JJ mg) l.prog w K mg base "_law_laid_right" f_x_law_laid_right (fdOf "_law_laid_right" s_x_law_laid_right kV_x_law_laid_right dc_x_law_laid_right pm_x_law_laid_right an_x_law_laid_right c_x_law_laid_right ct_x_law_laid_right) 14 ["_law_state_here", "_law_hues", "_law_row_here"] fm_x_law_laid_right := ⟨ok_x_law_laid_right (funC_mk l_x_law_laid_right cd_x_law_laid_right k_x_law_laid_right) T C_x_law_no_row C_x_law_no_hues C_x_laid W_x_law_word (PySem.W.mg_of X G a_x_law_word) k_x_law_word (Pt := 464) (hcd _ t_x_law_laid_right) (show (464 : Addr) ∈ tabs.map (·.2) by decide) hbm rfl, PySem.W.mg_of X G a_x_law_laid_right, k_x_law_laid_right, .all fun us hl => match us, hl with | [_, _, _], _ => rfl⟩
  exact SX.to_cx0 (ok_x_law (funC_mk l_x_law cd_x_law k_x_law) T C_x_law_state C_x_law_take C_x_law_row C_x_law_laid_right C_x_law_doors_right)
end SK
open PySem PySem.W PyProof.Rows
set_option maxRecDepth 100000 in
set_option maxHeartbeats 0 in
theorem PySem.Challenge.cw_sumhues_k63_refused_with_two_rows_holds : PySem.Challenge.rw_sumhues_k63_refused_with_two_rows.Holds :=
  by
  w_on; o_law; k_head; (case hw => w_witness2)
  k_fill
  refine SH.walk_tab (l := PySem.Challenge.rw_sumhues_k63_refused_with_two_rows) (n := 63) (k := 15) (x := "_law_script") (fm := fun _ => SX.topF SK.fm_x_law) (J := fun _ => SK.JJ0) (tabs := SK.tabs) rfl (by decide) rfl ⟨rfl, by decide, by decide, rfl⟩ (fun w h Y => by first | exact PySem.W.kIn_of Y | exact PySem.W.km_in_of Y) ?TT ?KK (fun _ => rfl) ?FF ?MM
  case TT =>
    intro w s0 mg mb h G KX
    exact List.forall_mem_cons.mpr ⟨SH.tab_of' (x := "is_half_row") G.T KX (by kernel_rfl) (by kernel_rfl), List.forall_mem_cons.mpr ⟨SH.tab_of' (x := "_law_doors_right") G.T KX (by kernel_rfl) (by kernel_rfl), List.forall_mem_cons.mpr ⟨SH.tab_of' (x := "_law_laid_right") G.T KX (by kernel_rfl) (by kernel_rfl), (fun _ q => nomatch q)⟩⟩⟩
  case KK =>
    intro w
    kernel_rfl
  case FF =>
    intro w mg fa h KX G hmg
    refine' SK.all_mk KX G hmg ?a_x_is_whole ?l_x_is_whole ?cd_x_is_whole ?k_x_is_whole ?a_x_check_rule ?l_x_check_rule ?cd_x_check_rule ?k_x_check_rule ?a_x_width_of ?l_x_width_of ?cd_x_width_of ?k_x_width_of ?a_x_law_cell_at ?l_x_law_cell_at ?cd_x_law_cell_at ?k_x_law_cell_at ?a_x_law_take ?l_x_law_take ?cd_x_law_take ?k_x_law_take ?a_x_law_fits ?l_x_law_fits ?cd_x_law_fits ?k_x_law_fits ?a_x_law_word ?l_x_law_word ?cd_x_law_word ?k_x_law_word ?a_x_is_within ?l_x_is_within ?cd_x_is_within ?k_x_is_within ?a_x_law_state ?l_x_law_state ?cd_x_law_state ?k_x_law_state ?a_x_law_row ?l_x_law_row ?cd_x_law_row ?k_x_law_row ?a_x_law_no_hues ?l_x_law_no_hues ?cd_x_law_no_hues ?k_x_law_no_hues ?a_x_law_no_rule ?l_x_law_no_rule ?cd_x_law_no_rule ?k_x_law_no_rule ?a_x_is_hue ?l_x_is_hue ?cd_x_is_hue ?k_x_is_hue ?a_x_check_hues ?l_x_check_hues ?cd_x_check_hues ?k_x_check_hues ?a_x_law_no_row ?l_x_law_no_row ?cd_x_law_no_row ?k_x_law_no_row ?a_x_is_half_row ?l_x_is_half_row ?cd_x_is_half_row ?k_x_is_half_row ?a_x_is_full_row ?l_x_is_full_row ?cd_x_is_full_row ?k_x_is_full_row ?a_x_check_row ?l_x_check_row ?cd_x_check_row ?k_x_check_row ?a_x_check_ruled_row ?l_x_check_ruled_row ?cd_x_check_ruled_row ?k_x_check_ruled_row ?a_x_check_row_of ?l_x_check_row_of ?cd_x_check_row_of ?k_x_check_row_of ?a_x_laid ?l_x_laid ?cd_x_laid ?k_x_laid ?a_x_mirrored ?l_x_mirrored ?cd_x_mirrored ?k_x_mirrored ?a_x_round_clashes ?l_x_round_clashes ?cd_x_round_clashes ?k_x_round_clashes ?a_x_led_round ?l_x_led_round ?cd_x_led_round ?k_x_led_round ?a_x_spread ?l_x_spread ?cd_x_spread ?k_x_spread ?a_x_is_settled ?l_x_is_settled ?cd_x_is_settled ?k_x_is_settled ?a_x_led_down ?l_x_led_down ?cd_x_led_down ?k_x_led_down ?a_x_is_mirrored ?l_x_is_mirrored ?cd_x_is_mirrored ?k_x_is_mirrored ?a_x_is_round ?l_x_is_round ?cd_x_is_round ?k_x_is_round ?a_x_law_doors_right ?l_x_law_doors_right ?cd_x_law_doors_right ?k_x_law_doors_right ?a_x_law_laid_right ?l_x_law_laid_right ?cd_x_law_laid_right ?k_x_law_laid_right ?a_x_law ?l_x_law ?cd_x_law ?k_x_law ?z_MOST_HUES ?z_MOST_NUMBERS ?z_RULES ?y_RULES ?q_HueError ?q_NoHues ?q_NoRow ?q_NoRule ?q_NoNumber ?q_NoHue ?q_NoLot ?q_NoStep ?q_NoPaper ?q_NoClean ?q_TooMany ?q_NoText ?q_NoLine ?q_NoDeed ?u_round_clashes ?u_is_round ?u_is_settled ?u_led_down ?b_ValueError ?b_all ?b_bool ?b_int ?b_isinstance ?b_len ?b_list ?b_max ?b_min ?b_range ?b_tuple ?herr ?t_x_is_half_row ?t_x_law_doors_right ?t_x_law_laid_right
    (case a_x_is_whole => k_is)
    (case l_x_is_whole => k_is)
    (case cd_x_is_whole => k_is)
    (case k_x_is_whole => k_is)
    (case a_x_check_rule => k_is)
    (case l_x_check_rule => k_is)
    (case cd_x_check_rule => k_is)
    (case k_x_check_rule => k_is)
    (case a_x_width_of => k_is)
    (case l_x_width_of => k_is)
    (case cd_x_width_of => k_is)
    (case k_x_width_of => k_is)
    (case a_x_law_cell_at => k_is)
    (case l_x_law_cell_at => k_is)
    (case cd_x_law_cell_at => k_is)
    (case k_x_law_cell_at => k_is)
    (case a_x_law_take => k_is)
    (case l_x_law_take => k_is)
    (case cd_x_law_take => k_is)
    (case k_x_law_take => k_is)
    (case a_x_law_fits => k_is)
    (case l_x_law_fits => k_is)
    (case cd_x_law_fits => k_is)
    (case k_x_law_fits => k_is)
    (case a_x_law_word => k_is)
    (case l_x_law_word => k_is)
    (case cd_x_law_word => k_is)
    (case k_x_law_word => k_is)
    (case a_x_is_within => k_is)
    (case l_x_is_within => k_is)
    (case cd_x_is_within => k_is)
    (case k_x_is_within => k_is)
    (case a_x_law_state => k_is)
    (case l_x_law_state => k_is)
    (case cd_x_law_state => k_is)
    (case k_x_law_state => k_is)
    (case a_x_law_row => k_is)
    (case l_x_law_row => k_is)
    (case cd_x_law_row => k_is)
    (case k_x_law_row => k_is)
    (case a_x_law_no_hues => k_is)
    (case l_x_law_no_hues => k_is)
    (case cd_x_law_no_hues => k_is)
    (case k_x_law_no_hues => k_is)
    (case a_x_law_no_rule => k_is)
    (case l_x_law_no_rule => k_is)
    (case cd_x_law_no_rule => k_is)
    (case k_x_law_no_rule => k_is)
    (case a_x_is_hue => k_is)
    (case l_x_is_hue => k_is)
    (case cd_x_is_hue => k_is)
    (case k_x_is_hue => k_is)
    (case a_x_check_hues => k_is)
    (case l_x_check_hues => k_is)
    (case cd_x_check_hues => k_is)
    (case k_x_check_hues => k_is)
    (case a_x_law_no_row => k_is)
    (case l_x_law_no_row => k_is)
    (case cd_x_law_no_row => k_is)
    (case k_x_law_no_row => k_is)
    (case a_x_is_half_row => k_is)
    (case l_x_is_half_row => k_is)
    (case cd_x_is_half_row => k_is)
    (case k_x_is_half_row => k_is)
    (case a_x_is_full_row => k_is)
    (case l_x_is_full_row => k_is)
    (case cd_x_is_full_row => k_is)
    (case k_x_is_full_row => k_is)
    (case a_x_check_row => k_is)
    (case l_x_check_row => k_is)
    (case cd_x_check_row => k_is)
    (case k_x_check_row => k_is)
    (case a_x_check_ruled_row => k_is)
    (case l_x_check_ruled_row => k_is)
    (case cd_x_check_ruled_row => k_is)
    (case k_x_check_ruled_row => k_is)
    (case a_x_check_row_of => k_is)
    (case l_x_check_row_of => k_is)
    (case cd_x_check_row_of => k_is)
    (case k_x_check_row_of => k_is)
    (case a_x_laid => k_is)
    (case l_x_laid => k_is)
    (case cd_x_laid => k_is)
    (case k_x_laid => k_is)
    (case a_x_mirrored => k_is)
    (case l_x_mirrored => k_is)
    (case cd_x_mirrored => k_is)
    (case k_x_mirrored => k_is)
    (case a_x_round_clashes => k_is)
    (case l_x_round_clashes => k_is)
    (case cd_x_round_clashes => k_is)
    (case k_x_round_clashes => k_is)
    (case a_x_led_round => k_is)
    (case l_x_led_round => k_is)
    (case cd_x_led_round => k_is)
    (case k_x_led_round => k_is)
    (case a_x_spread => k_is)
    (case l_x_spread => k_is)
    (case cd_x_spread => k_is)
    (case k_x_spread => k_is)
    (case a_x_is_settled => k_is)
    (case l_x_is_settled => k_is)
    (case cd_x_is_settled => k_is)
    (case k_x_is_settled => k_is)
    (case a_x_led_down => k_is)
    (case l_x_led_down => k_is)
    (case cd_x_led_down => k_is)
    (case k_x_led_down => k_is)
    (case a_x_is_mirrored => k_is)
    (case l_x_is_mirrored => k_is)
    (case cd_x_is_mirrored => k_is)
    (case k_x_is_mirrored => k_is)
    (case a_x_is_round => k_is)
    (case l_x_is_round => k_is)
    (case cd_x_is_round => k_is)
    (case k_x_is_round => k_is)
    (case a_x_law_doors_right => k_is)
    (case l_x_law_doors_right => k_is)
    (case cd_x_law_doors_right => k_is)
    (case k_x_law_doors_right => k_is)
    (case a_x_law_laid_right => k_is)
    (case l_x_law_laid_right => k_is)
    (case cd_x_law_laid_right => k_is)
    (case k_x_law_laid_right => k_is)
    (case a_x_law => k_is)
    (case l_x_law => k_is)
    (case cd_x_law => k_is)
    (case k_x_law => k_is)
    (case z_MOST_HUES => k_is)
    (case z_MOST_NUMBERS => k_is)
    (case z_RULES => k_is)
    (case y_RULES => k_is)
    (case q_HueError => k_is)
    (case q_NoHues => k_is)
    (case q_NoRow => k_is)
    (case q_NoRule => k_is)
    (case q_NoNumber => k_is)
    (case q_NoHue => k_is)
    (case q_NoLot => k_is)
    (case q_NoStep => k_is)
    (case q_NoPaper => k_is)
    (case q_NoClean => k_is)
    (case q_TooMany => k_is)
    (case q_NoText => k_is)
    (case q_NoLine => k_is)
    (case q_NoDeed => k_is)
    (case u_round_clashes => k_is)
    (case u_is_round => k_is)
    (case u_is_settled => k_is)
    (case u_led_down => k_is)
    (case b_ValueError => k_is)
    (case b_all => k_is)
    (case b_bool => k_is)
    (case b_int => k_is)
    (case b_isinstance => k_is)
    (case b_len => k_is)
    (case b_list => k_is)
    (case b_max => k_is)
    (case b_min => k_is)
    (case b_range => k_is)
    (case b_tuple => k_is)
    (case herr => kernel_rfl)
    (case t_x_is_half_row => exact (by decide))
    (case t_x_law_doors_right => exact (by decide))
    (case t_x_law_laid_right => exact (by decide))
  case MM => exact fun _ ns hl => SX.topF_true (SK.law_true ns hl)
