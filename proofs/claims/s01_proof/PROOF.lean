import PyProof.Rows.All
import Wide.All
import OpenK.AllK
import Wide.FinOn
import PyProof.EqAt
import PyProof.EqKinds
import PyProof.TupleCall
import KE.BitLaws
import PyProof.MaxThree
import PyProof.Rows.StrOr
import PyProof.Rows.StrIntSpec
import PyProof.Rows.RuleM_int
import PyProof.StrCalls6
import Open.SpecLaws
import KE.OsHead
import KE.OsGo
import PySem.Challenge.RW_sixteendigits_s01_op
set_option Elab.async false
set_option linter.all false
set_option maxRecDepth 100000
namespace L2
open PySem PySem.Spec PyProof.Rows

abbrev Key := Sum Int Str
def keyIs : Key → Value → Bool
  | .inl k, v => Value.isInt k v
  | .inr x, v => Value.isStrOf x v
def keyH (w : World) : Key → Int
  | .inl k => hashInt k
  | .inr x => hashStr w x
theorem keyIs_shape : ∀ {k : Key} {v : Value}, keyIs k v = true → (∃ i t, k = Sum.inl i ∧ v = Value.int i t) ∨ (∃ x t, k = Sum.inr x ∧ v = Value.str x t)
  | .inl i, v, h => by
    obtain ⟨t, e⟩ := Value.isInt_shape (k := i) (v := v) h
    exact .inl ⟨i, t, rfl, e⟩
  | .inr x, v, h => by
    obtain ⟨t, e⟩ := Value.isStrOf_shape (x := x) (v := v) h
    exact .inr ⟨x, t, rfl, e⟩
theorem key_ll (a b : Int) : decide ((Sum.inl a : Key) = Sum.inl b) = (a == b) := by
  by_cases e : a = b
  · subst e; simp
  · have h : ¬ (Sum.inl a : Key) = Sum.inl b := fun q => e (Sum.inl.inj q)
    rw [decide_eq_false h]
    exact (beq_eq_false_iff_ne.mpr e).symm
theorem key_rr (a b : Str) : decide ((Sum.inr a : Key) = Sum.inr b) = decide (a = b) := by
  by_cases e : a = b
  · subst e; simp
  · have h : ¬ (Sum.inr a : Key) = Sum.inr b := fun q => e (Sum.inr.inj q)
    rw [decide_eq_false h, decide_eq_false e]
theorem key_lr (a : Int) (b : Str) : decide ((Sum.inl a : Key) = Sum.inr b) = false := decide_eq_false (fun q => nomatch q)
theorem key_rl (a : Str) (b : Int) : decide ((Sum.inr a : Key) = Sum.inl b) = false := decide_eq_false (fun q => nomatch q)

def mixKind (prog : Program) (w : World) : PySem.KeyKind prog w Key where
  is := keyIs
  hash := keyH w
  inj := fun v a b ha hb => by
    rcases keyIs_shape ha with ⟨i, t, rfl, rfl⟩ | ⟨x, t, rfl, rfl⟩
    · rcases keyIs_shape hb with ⟨j, u, rfl, e⟩ | ⟨y, u, rfl, e⟩
      · injection e with e1 _; rw [e1]
      · exact nomatch e
    · rcases keyIs_shape hb with ⟨j, u, rfl, e⟩ | ⟨y, u, rfl, e⟩
      · exact nomatch e
      · injection e with e1 _; rw [e1]
  byValue := fun k v h => by
    rcases keyIs_shape h with ⟨i, t, rfl, rfl⟩ | ⟨x, t, rfl, rfl⟩ <;> rfl
  pyHash := fun hv h => by
    rcases keyIs_shape hv with ⟨i, t, rfl, rfl⟩ | ⟨x, t, rfl, rfl⟩
    · exact wpAny_pyHash_int h
    · exact wpAny_pyHash_str h
  eqBool := fun hu hv h => by
    rcases keyIs_shape hu with ⟨i, t, rfl, rfl⟩ | ⟨x, t, rfl, rfl⟩
    · rcases keyIs_shape hv with ⟨j, u, rfl, rfl⟩ | ⟨y, u, rfl, rfl⟩
      · rw [key_ll] at h; exact wpAny_eqBool_int h
      · rw [key_lr] at h; exact SeqAt.EqAt.int_str i t y u _ _ _ _ h
    · rcases keyIs_shape hv with ⟨j, u, rfl, rfl⟩ | ⟨y, u, rfl, rfl⟩
      · rw [key_rl] at h; exact SeqAt.EqAt.str_int x t j u _ _ _ _ h
      · rw [key_rr] at h; exact wpAny_eqBool_str h
  «strs» := fun k x t v h => by
    rcases keyIs_shape h with ⟨i, u, rfl, e⟩ | ⟨y, u, rfl, e⟩
    · exact nomatch e
    · injection e with e1 _
      subst e1
      cases v <;> rfl

end L2

namespace L2
open PySem PySem.Spec PyProof.Rows

inductive V where
  | non | bl (b : Bool) | int (i : Int) | str (x : Str) | byt (b : Array UInt8) | flt (b : UInt64) | ref (a : Addr) | ty (n : String)
  deriving DecidableEq

def RelV : V → Value → Prop
  | .non, u => u = Value.none
  | .bl b, u => u = Value.bool b
  | .int i, u => ∃ t, u = Value.int i t
  | .str x, u => ∃ t, u = Value.str x t
  | .byt b, u => ∃ t, u = Value.bytes b t
  | .flt b, u => ∃ t, u = Value.float b t
  | .ref a, u => u = Value.ref a
  | .ty n, u => u = Value.type n

abbrev Vals : List V → List Value → Prop := Paired RelV
theorem Vals.length {xs : List V} {us : List Value} (r : Vals xs us) : xs.length = us.length := Paired.length r
theorem Vals.get : ∀ {xs : List V} {us : List Value} {i : Nat} {x : V}, Vals xs us → xs[i]? = some x → ∃ u, us[i]? = some u ∧ RelV x u
  | _, _, _, _, .nil, e => by simp at e
  | _, _, 0, _, .cons r _, e => by simp at e; subst e; exact ⟨_, rfl, r⟩
  | _, _, i + 1, x, .cons _ t, e => by
    obtain ⟨u, h1, h2⟩ := Vals.get (i := i) (x := x) t (by simpa using e)
    exact ⟨u, by simpa using h1, h2⟩
theorem Vals.set {x : V} {u : Value} (r : RelV x u) : ∀ {xs : List V} {us : List Value} (i : Nat), Vals xs us → Vals (xs.set i x) (us.set i u)
  | _, _, _, .nil => .nil
  | _, _, 0, .cons _ t => .cons r t
  | _, _, i + 1, .cons q t => .cons q (Vals.set r i t)
theorem Vals.append : ∀ {xs ys : List V} {us ws : List Value}, Vals xs us → Vals ys ws → Vals (xs ++ ys) (us ++ ws)
  | _, _, _, _, .nil, s => s
  | _, _, _, _, .cons r t, s => .cons r (Vals.append t s)
theorem Vals.take : ∀ {xs : List V} {us : List Value} (n : Nat), Vals xs us → Vals (xs.take n) (us.take n)
  | _, _, 0, _ => .nil
  | _, _, _ + 1, .nil => .nil
  | _, _, n + 1, .cons r t => .cons r (Vals.take n t)
theorem Vals.drop : ∀ {xs : List V} {us : List Value} (n : Nat), Vals xs us → Vals (xs.drop n) (us.drop n)
  | _, _, 0, r => r
  | _, _, _ + 1, .nil => .nil
  | _, _, n + 1, .cons _ t => Vals.drop n t
def RelO : Option V → Option Value → Prop
  | some v, some u => RelV v u
  | none, none => True
  | _, _ => False
def KV {κ : Type} : List (κ × V) → List (κ × Value) → Prop := Paired fun (p : κ × V) (q : κ × Value) => p.1 = q.1 ∧ RelV p.2 q.2

def kV : Key → V
  | .inl i => .int i
  | .inr x => .str x

inductive HO where
  /-- a list -/
  | lst (xs : List V)
  /-- a tuple (never changes) -/
  | tup (xs : List V)
  /-- a dict whose keys are ints and texts; one whose keys are tuples of ints and texts (the empty one is both) -/
  | dK (kvs : List (Key × V)) | dT (kvs : List (List Key × V))
  /-- a set of ints: its members, its size -/
  | set (S : Int → Bool) (n : Nat)
  /-- an instance of the class at C, its dict at dx, its attributes -/
  | ins (C dx : Addr) (fs : List (Str × V))
  /-- the dict of the instance at x -/
  | own (x : Addr)
  /-- the dict of an exception -/
  | xd (fs : List (Str × V))
  /-- a bound method, f of x -/
  | met (f x : Addr)
  /-- a range object lo, lo + 1, .. below hi -/
  | rng (lo hi : Int)
  /-- a thing that is known to the object (the script; a dict while a loop walks it): read, never written while it is so -/
  | frz (o : Obj) (u : HO)
  /-- a code object's table -/
  | tbl (ps : Array Value)
  /-- any other thing, by what is true of its one object (a def of one's own: SetO a S n := HO.ext fun h => ..) -/
  | ext (φ : Heap → Prop)

abbrev Hp := Addr → Option HO
def upd (H : Hp) (a : Addr) (o : HO) : Hp := fun b => if b = a then some o else H b
theorem upd_same {H : Hp} {a : Addr} {o : HO} : upd H a o a = some o := by unfold upd; rw [if_pos rfl]
theorem upd_ne {H : Hp} {a b : Addr} {o : HO} (h : b ≠ a) : upd H a o b = H b := by unfold upd; rw [if_neg h]
theorem ne_of_none {H : Hp} {a b : Addr} {o : HO} (h : H a = some o) (h' : H b = none) : a ≠ b := by
  intro e; subst e; rw [h] at h'; cases h'

section
variable (P : Program) (w : World)
def ObjOk (H : Hp) (h : Heap) (a : Addr) : HO → Prop
  | .lst xs => xs.length ≤ sizeLine ∧ ∃ (its : List Value) (n : Nat), Vals xs its ∧ h.get? a = some { cls := .type "list", data := .seq its.toArray n }
  | .tup xs => xs.length ≤ sizeLine ∧ ∃ its : List Value, Vals xs its ∧ IsTup h a its.toArray
  | .dK kvs => kvs.length ≤ sizeLine ∧ (a == sysModules) = false ∧ ∃ vs, KV kvs vs ∧ h.DictOf (mixKind P w) a vs
  | .dT kvs => kvs.length ≤ sizeLine ∧ (a == sysModules) = false ∧ ∃ xs : List (List Key × Addr × Value),
      Paired (fun (p : List Key × V) (q : List Key × Addr × Value) => p.1 = q.1 ∧ H q.2.1 = some (.tup (p.1.map kV)) ∧ RelV p.2 q.2.2) kvs xs ∧
      ∃ o es ep, h.get? a = some o ∧ o.ExactDict ∧ o.data = .dict es ep ∧ es.toList = xs.map (entryOfKey (tupleKind (mixKind P w))) ∧ (xs.map (·.1)).Nodup
  | .set S n => h.SetOf (intKind P w) a S n
  | .ins C dx fs => H dx = some (.own a) ∧ fs.length ≤ 1000 ∧ dx ≠ a ∧ h.get? a = some (PySem.W.instObj C dx) ∧
      ∃ mA, h.Ns1 dx mA ∧ (∀ f, RelO (fs.lookup f) (mA f)) ∧ PySem.Within mA (fs.map (·.1))
  | .own _ => ∃ o, h.get? a = some o
  | .xd fs => ∃ mA, h.Ns1 a mA ∧ ∀ f, RelO (fs.lookup f) (mA f)
  | .rng lo hi => ∃ t u v, h.get? a = some { cls := .type "range", data := .fields #[.int lo t, .int hi u, .int 1 v] }
  | .frz o u => h.get? a = some o ∧ ObjOk H h a u
  | .tbl ps => h.get? a = some { cls := .none, data := .fields ps }
  | .met f x => h.get? a = some (PySem.W.methodObj (.ref f) (.ref x))
  | .ext φ => φ h ∧ (∃ o, h.get? a = some o) ∧ ∀ h1 h2 : Heap, φ h1 → (∀ o, h1.get? a = some o → h2.get? a = some o) → φ h2
def HOk (H : Hp) (h : Heap) : Prop := ∀ a o, H a = some o → ObjOk P w H h a o
end

section
variable {P : Program} {w : World} {H H' : Hp} {h h' : Heap} {a : Addr} {o : HO}
theorem ObjOk.lt (x : ObjOk P w H h a o) : a < h.objs.size := by
  cases o with
  | lst xs => obtain ⟨_, _, _, _, e⟩ := x; exact Heap.lt_size e
  | tup xs => obtain ⟨_, _, _, p⟩ := x; exact p.lt
  | dK kvs => obtain ⟨_, _, _, _, o, _, _, e, _⟩ := x; exact Heap.lt_size e
  | dT kvs => obtain ⟨_, _, _, _, o, _, _, e, _⟩ := x; exact Heap.lt_size e
  | set S n => obtain ⟨o, _, _, _, e, _⟩ := x; exact Heap.lt_size e
  | ins C dx fs => obtain ⟨_, _, _, e, _⟩ := x; exact Heap.lt_size e
  | own y => obtain ⟨_, e⟩ := x; exact Heap.lt_size e
  | xd fs => obtain ⟨_, ⟨_, _, _, e, _⟩, _⟩ := x; exact Heap.lt_size e
  | rng lo hi => obtain ⟨_, _, _, e⟩ := x; exact Heap.lt_size e
  | frz ob u => obtain ⟨e, _⟩ := x; exact Heap.lt_size e
  | tbl ps => exact Heap.lt_size (show h.get? a = some _ from x)
  | met f y => exact Heap.lt_size (show h.get? a = some _ from x)
  | ext φ => obtain ⟨_, ⟨_, e⟩, _⟩ := x; exact Heap.lt_size e
theorem Paired.mapP {α β : Type} {F G : α → β → Prop} : ∀ {l₁ : List α} {l₂ : List β}, Paired F l₁ l₂ → (∀ a b, F a b → G a b) → Paired G l₁ l₂
  | _, _, .nil, _ => .nil
  | _, _, .cons r t, f => .cons (f _ _ r) (Paired.mapP t f)
theorem ObjOk.stay (x : ObjOk P w H h a o) (k : ∀ b u, (b = a ∨ H b = some (.own a)) → h.get? b = some u → h'.get? b = some u)
    (ho : ∀ b, H b = some (.own a) → H' b = some (.own a)) (ht : ∀ b xs, H b = some (.tup xs) → H' b = some (.tup xs)) : ObjOk P w H' h' a o := by
  induction o with
  | lst xs => obtain ⟨z, its, n, r, e⟩ := x; exact ⟨z, its, n, r, k _ _ (.inl rfl) e⟩
  | tup xs => obtain ⟨z, its, r, ob, e, c⟩ := x; exact ⟨z, its, r, ob, k _ _ (.inl rfl) e, c⟩
  | dK kvs => obtain ⟨z, y, vs, r, ob, es, ep, e, c⟩ := x; exact ⟨z, y, vs, r, ob, es, ep, k _ _ (.inl rfl) e, c⟩
  | dT kvs =>
    obtain ⟨z, y, xs, r, ob, es, ep, e, c⟩ := x
    exact ⟨z, y, xs, Paired.mapP r fun p q z => ⟨z.1, ht _ _ z.2.1, z.2.2⟩, ob, es, ep, k _ _ (.inl rfl) e, c⟩
  | set S n => obtain ⟨ob, es, ep, t, e, c⟩ := x; exact ⟨ob, es, ep, t, k _ _ (.inl rfl) e, c⟩
  | ins C dx fs =>
    obtain ⟨d, z, ne, e, mA, ⟨od, es, ep, e2, c⟩, r⟩ := x
    exact ⟨ho _ d, z, ne, k _ _ (.inl rfl) e, mA, ⟨od, es, ep, k _ _ (.inr d) e2, c⟩, r⟩
  | own y => obtain ⟨ob, e⟩ := x; exact ⟨ob, k _ _ (.inl rfl) e⟩
  | xd fs => obtain ⟨mA, ⟨od, es, ep, e, c⟩, r⟩ := x; exact ⟨mA, ⟨od, es, ep, k _ _ (.inl rfl) e, c⟩, r⟩
  | rng lo hi => obtain ⟨t, u, v, e⟩ := x; exact ⟨t, u, v, k _ _ (.inl rfl) e⟩
  | frz ob u ih => obtain ⟨e, q⟩ := x; exact ⟨k _ _ (.inl rfl) e, ih q⟩
  | tbl ps =>
    have e : h.get? a = some { cls := .none, data := .fields ps } := x
    show h'.get? a = some { cls := .none, data := .fields ps }
    exact k a _ (.inl rfl) e
  | met f y =>
    have e : h.get? a = some (PySem.W.methodObj (.ref f) (.ref y)) := x
    show h'.get? a = some (PySem.W.methodObj (.ref f) (.ref y))
    exact k a _ (.inl rfl) e
  | ext φ => obtain ⟨p, ⟨o, e⟩, st⟩ := x; exact ⟨st _ _ p fun o q => k _ _ (.inl rfl) q, ⟨o, k _ _ (.inl rfl) e⟩, st⟩
theorem HOk.lt (x : HOk P w H h) (e : H a = some o) : a < h.objs.size := (x a o e).lt
theorem HOk.fresh (x : HOk P w H h) (e : h.objs.size ≤ a) : H a = none := by
  cases q : H a with
  | none => rfl
  | some u => exact absurd (Nat.lt_of_lt_of_le (x.lt q) e) (Nat.lt_irrefl _)
theorem HOk.kept (x : HOk P w H h) (k : ∀ b u, h.get? b = some u → h'.get? b = some u) : HOk P w H h' := fun a o e =>
  (x a o e).stay (fun b u _ q => k b u q) (fun _ q => q) fun _ _ q => q
theorem HOk.laid (x : HOk P w H h) (k : ∀ b u, h.get? b = some u → h'.get? b = some u) (hp : h.objs.size ≤ a) (new : ObjOk P w (upd H a o) h' a o) : HOk P w (upd H a o) h' := fun b u e => by
  have hn := x.fresh hp
  by_cases hb : b = a
  · subst hb; rw [upd_same] at e; cases e; exact new
  · rw [upd_ne hb] at e
    exact (x b u e).stay (fun c v _ q => k c v q) (fun c q => by rw [upd_ne (ne_of_none q hn)]; exact q) fun c xs q => by rw [upd_ne (ne_of_none q hn)]; exact q
end

def Rd (H : Hp) (a : Addr) (u : HO) : Prop := H a = some u ∨ ∃ o, H a = some (.frz o u)
theorem Rd.of {H : Hp} {a : Addr} {u : HO} (h : H a = some u) : Rd H a u := .inl h
theorem Rd.ok {P : Program} {w : World} {H : Hp} {h : Heap} {a : Addr} {u : HO} (r : Rd H a u) (x : HOk P w H h) : ObjOk P w H h a u := by
  rcases r with r | ⟨o, r⟩
  · exact x a u r
  · obtain ⟨_, q⟩ := x a _ r
    exact q
def Mut : Option HO → Prop
  | some (.lst _) => True
  | some (.dK _) => True
  | some (.dT _) => True
  | some (.set _ _) => True
  | some (.ins _ _ _) => True
  | some (.ext _) => True
  | _ => False
section
variable {P : Program} {w : World} {H : Hp} {h h' : Heap} {x e : Addr} {o' : HO}
theorem HOk.write (ok : HOk P w H h) (mu : Mut (H x)) (he : e = x ∨ H e = some (.own x)) (k : ∀ b u, b ≠ e → h.get? b = some u → h'.get? b = some u) (heo : ∃ u, h'.get? e = some u)
    (new : ObjOk P w (upd H x o') h' x o') : HOk P w (upd H x o') h' := fun b u q => by
  have nown : ∀ c y, H c = some (.own y) → c ≠ x := fun c y r z => by subst z; rw [r] at mu; exact mu
  have ntup : ∀ c xs, H c = some (.tup xs) → c ≠ x := fun c xs r z => by subst z; rw [r] at mu; exact mu
  by_cases hb : b = x
  · subst hb; rw [upd_same] at q; cases q; exact new
  · rw [upd_ne hb] at q
    by_cases hbe : b = e
    · have q' : H b = some (.own x) := by
        rcases he with z | z
        · exact absurd (hbe.trans z) hb
        · rw [hbe]; exact z
      rw [q] at q'; cases q'
      obtain ⟨v, hv⟩ := heo
      exact ⟨v, by rw [hbe]; exact hv⟩
    · refine (ok b u q).stay (fun c v hc r => k c v ?_ r) (fun c r => by rw [upd_ne (nown c b r)]; exact r) fun c xs r => by rw [upd_ne (ntup c xs r)]; exact r
      rcases hc with rfl | hc
      · exact hbe
      · rintro rfl
        rcases he with z | z
        · exact nown c b hc z
        · rw [hc] at z; cases z; exact hb rfl
end

structure Un (fs ex : List Addr) (H H' : Hp) (h h' : Heap) : Prop where
  keep : ∀ b o, h.get? b = some o → H b = none → b ∉ fs → b ∉ ex → h'.get? b = some o
  slot : ∀ b o, h.get? b = some o → H b = none → b ∈ fs → b ∉ ex → ∃ sl, h'.get? b = some { o with slots := sl }
  free : ∀ b o, h.get? b = some o → H b = none → b ∉ ex → H' b = none
  there : ∀ b o, h.get? b = some o → b ∉ ex → ∃ o', h'.get? b = some o'
  tups : ∀ b xs, H b = some (.tup xs) → H' b = some (.tup xs)
  frzs : ∀ b o u, H b = some (.frz o u) → H' b = some (.frz o u)
  tbls : ∀ b ps, H b = some (.tbl ps) → ∃ more, H' b = some (.tbl (ps ++ more))
section
variable {fs fs' ex ex' : List Addr} {H H1 H2 : Hp} {h h1 h2 h' : Heap} {a x e : Addr} {o : HO}
theorem Un.any (u : Un fs ex H H1 h h1) {b : Addr} {ob : Obj} (q : h.get? b = some ob) (n : H b = none) (hx : b ∉ ex) : ∃ sl, h1.get? b = some { ob with slots := sl } := by
  by_cases hb : b ∈ fs
  · exact u.slot b ob q n hb hx
  · exact ⟨ob.slots, u.keep b ob q n hb hx⟩
theorem Un.trans (a : Un fs ex H H1 h h1) (b : Un fs ex H1 H2 h1 h2) : Un fs ex H H2 h h2 where
  keep := fun c ob q n hc hx => b.keep c ob (a.keep c ob q n hc hx) (a.free c ob q n hx) hc hx
  slot := fun c ob q n hc hx => by
    obtain ⟨sl, e1⟩ := a.slot c ob q n hc hx
    obtain ⟨sl', e2⟩ := b.slot c _ e1 (a.free c ob q n hx) hc hx
    exact ⟨sl', e2⟩
  free := fun c ob q n hx => by
    obtain ⟨o', e1⟩ := a.there c ob q hx
    exact b.free c o' e1 (a.free c ob q n hx) hx
  there := fun c ob q hx => by
    obtain ⟨o', e1⟩ := a.there c ob q hx
    exact b.there c o' e1 hx
  tups := fun c xs q => b.tups c xs (a.tups c xs q)
  frzs := fun c ob xs q => b.frzs c ob xs (a.frzs c ob xs q)
  tbls := fun c ps q => by
    obtain ⟨m1, e1⟩ := a.tbls c ps q
    obtain ⟨m2, e2⟩ := b.tbls c _ e1
    exact ⟨m1 ++ m2, by rw [e2, Array.append_assoc]⟩
theorem Un.kept (k : ∀ b u, h.get? b = some u → h'.get? b = some u) : Un fs ex H H h h' :=
  ⟨fun b ob q _ _ _ => k b ob q, fun b ob q _ _ _ => ⟨ob.slots, k b ob q⟩, fun _ _ _ n _ => n, fun b ob q _ => ⟨ob, k b ob q⟩, fun _ _ q => q, fun _ _ _ q => q, fun _ ps q => ⟨#[], by rw [q]; simp⟩⟩
theorem Un.refl : Un fs ex H H h h := Un.kept fun _ _ q => q
theorem Un.laid (k : ∀ b u, h.get? b = some u → h'.get? b = some u) (hp : h.objs.size ≤ a) (hn : H a = none) : Un fs ex H (upd H a o) h h' where
  keep := fun b u q _ _ _ => k b u q
  slot := fun b u q _ _ _ => ⟨u.slots, k b u q⟩
  free := fun b u q n _ => by rw [upd_ne (Nat.ne_of_lt (Nat.lt_of_lt_of_le (Heap.lt_size q) hp))]; exact n
  there := fun b u q _ => ⟨u, k b u q⟩
  tups := fun b xs q => by rw [upd_ne (ne_of_none q hn)]; exact q
  frzs := fun b u xs q => by rw [upd_ne (ne_of_none q hn)]; exact q
  tbls := fun b ps q => ⟨#[], by rw [upd_ne (ne_of_none q hn), q]; simp⟩
theorem Un.write (mu : Mut (H x)) (he : e = x ∨ H e = some (.own x)) (k : ∀ b u, b ≠ e → h.get? b = some u → h'.get? b = some u) (heo : ∃ u, h'.get? e = some u) : Un fs ex H (upd H x o) h h' := by
  have hx : ∀ b, H b = none → b ≠ x := fun b n z => by subst z; rw [n] at mu; exact mu
  have hb : ∀ b, H b = none → b ≠ e := fun b n z => by
    subst z
    rcases he with r | r
    · exact hx b n r
    · rw [n] at r; cases r
  have hm : ∀ b u, H b = some u → ¬ Mut (some u) → b ≠ x := fun b u q nm z => by subst z; rw [q] at mu; exact nm mu
  refine ⟨fun b u q n _ _ => k b u (hb b n) q, fun b u q n _ _ => ⟨u.slots, k b u (hb b n) q⟩, fun b u q n _ => by rw [upd_ne (hx b n)]; exact n, fun b u q _ => ?_,
    fun b xs q => by rw [upd_ne (hm b _ q fun z => z)]; exact q, fun b u xs q => by rw [upd_ne (hm b _ q fun z => z)]; exact q, fun b ps q => ⟨#[], by rw [upd_ne (hm b _ q fun z => z), q]; simp⟩⟩
  by_cases hbe : b = e
  · subst hbe; exact heo
  · exact ⟨u, k b u hbe q⟩
theorem Un.mono (u : Un fs ex H H1 h h1) (hs : ∀ b ∈ fs, b ∈ fs') (hx : ∀ b ∈ ex, b ∈ ex') : Un fs' ex' H H1 h h1 :=
  ⟨fun b ob q n hb he => u.keep b ob q n (fun z => hb (hs b z)) fun z => he (hx b z), fun _ _ q n _ he => u.any q n fun z => he (hx _ z), fun b ob q n he => u.free b ob q n fun z => he (hx b z), fun b ob q he => u.there b ob q fun z => he (hx b z), u.tups, u.frzs, u.tbls⟩
end

def trk (h : Heap) (H : Hp) : List Addr := (List.range h.objs.size).filter fun a => (H a).isSome
def hidT (h : Heap) (H : Hp) : Heap := PySem.W.hideAll h (trk h H)
theorem hidT_size (h : Heap) (H : Hp) : (hidT h H).objs.size = h.objs.size := PySem.W.hideAll_size _ _
theorem hidT_get {h : Heap} {H : Hp} {b : Addr} {o : Obj} (e : h.get? b = some o) (n : H b = none) : (hidT h H).get? b = some o :=
  PySem.W.hideAll_get _ e fun hm => by
    have q : (H b).isSome = true := (List.mem_filter.mp hm).2
    rw [n] at q; simp at q
theorem of_hidT {h : Heap} {H : Hp} {b : Addr} {o : Obj} (e : (hidT h H).get? b = some o) : h.get? b = some o ∧ H b = none := by
  have e' : h.get? b = some o := PySem.W.of_hideAll (trk h H) e
  refine ⟨e', ?_⟩
  cases q : H b with
  | none => rfl
  | some x =>
    have hm : b ∈ trk h H := List.mem_filter.mpr ⟨List.mem_range.mpr (Heap.lt_size e'), by simp [q]⟩
    have z : (hidT h H).get? b = none := PySem.W.hideAll_none (trk h H) hm
    rw [z] at e; cases e

def allNews (g h : Heap) (L : Addr) : List (Addr × Obj) := (List.range h.objs.size).filterMap fun a => if a = L ∨ (g.get? a).isSome = true then none else (h.get? a).map fun o => (a, o)
def rest (g h : Heap) (L d : Addr) : List (Addr × Obj) := (allNews g h L).filter fun p => decide (p.1 ≠ d)
end L2

namespace L2
open PySem PySem.Spec PyProof.Rows

structure Mod (K : PySem.W.Frag) (mg : Str → Option Value) (base : Heap) : Prop where
  kin : K.In base
  glob : base.Ns mainGlobals mg
  blt : ∃ mb, base.Ns builtinsNs mb ∧ ∀ x : Str, x ≠ "__name__" → mb x = bootBuiltins x
  nolimit : base.NoLimit

structure Cx where
  prog : Program
  w : World
  K : PySem.W.Frag
  mg : Str → Option Value
  base : Heap
  A : Around
  N : List Str
  s_0 : Shared
  H_0 : Hp
  env : Env
  outer : List Env
  stack : List Env
  ex : List Addr
  fn : Str → Bool
  calm : Bool
  pn : List (Addr × Obj)
  xe : Value → Shared → Prop
def frs (l : List Env) : List Addr := l.filterMap (·.frame)
abbrev Cx.fs (X : Cx) : List Addr := frs X.outer

def Vis (sc : Scope) (x : Str) : Prop := sc.names.lookup x = some .local ∨ sc.names.lookup x = some .cell ∨ sc.names.lookup x = some .free
def Loc (sc : Scope) (x : Str) : Prop := sc.names.lookup x = some .local ∨ sc.names.lookup x = some .cell
def Look (env : Env) (h : Heap) (m : Str → Option Value) (x : Str) (u : Value) : Prop :=
  (env.kindOf x = some .local ∧ m x = some u) ∨ ((env.kindOf x = some .cell ∨ env.kindOf x = some .free) ∧ ∃ c, env.cells.lookup x = some c ∧ h.IsCell c (some u))

structure Cx.Ok (X : Cx) : Prop where
  mod : Mod X.K X.mg X.base
  kind : X.env.scope.kind = .function
  glob : X.env.globals = mainGlobals
  blt : X.env.builtins = builtinsNs
  above : X.s_0.heap.objs.size ≤ X.env.locals
  inj : ∀ x y c, X.env.cells.lookup x = some c → X.env.cells.lookup y = some c → x = y
  has : ∀ x, (X.env.kindOf x = some .cell ∨ X.env.kindOf x = some .free) → ∃ c, X.env.cells.lookup x = some c
  cab : ∀ x c, X.fn x = true → X.env.cells.lookup x = some c → X.s_0.heap.objs.size ≤ c
  hd : X.calm = true → X.A.handled = none
  frames : X.A.frames = some X.stack
  stk : X.stack = X.outer ∨ (X.stack = X.env :: X.outer ∧ X.env.frame = some X.env.locals)
  exf : ∀ b ∈ X.ex, b ≠ X.env.locals ∧ ∀ x c, X.env.cells.lookup x = some c → c ≠ b
  bs : ∀ b o, X.base.get? b = some o → X.s_0.heap.get? b = some o ∧ X.H_0 b = none
  bsz : X.base.objs.size ≤ X.s_0.heap.objs.size
  noex : ∀ b o, X.base.get? b = some o → b ∉ X.ex
  exfs : ∀ b ∈ X.ex, b ∉ X.fs
  funs : X.s_0.heap.FunFrames X.base X.outer
  frf : ∀ b ∈ X.fs, X.H_0 b = none

structure Inv (X : Cx) (pins : List (Addr × Obj)) (σ : List (Option V)) (H : Hp) (s : Shared) : Prop where
  ok : X.Ok
  os : s.os = X.s_0.os
  bare : AllBare s.gens
  base : Un X.fs X.ex X.H_0 H X.s_0.heap s.heap
  loc : ∃ m, s.heap.Ns X.env.locals m ∧ ∀ (i : Nat) (x : Str) (v : V), X.N[i]? = some x → σ[i]? = some (some v) → Vis X.env.scope x → ∃ u, RelV v u ∧ Look X.env s.heap m x u
  cell : ∀ x c, X.env.cells.lookup x = some c → ∃ v, s.heap.IsCell c v
  free : H X.env.locals = none
  freeC : ∀ x c, X.env.cells.lookup x = some c → H c = none
  pin : ∀ p ∈ X.pn ++ pins, s.heap.get? p.1 = some p.2 ∧ H p.1 = none ∧ p.1 ≠ X.env.locals ∧ p.1 ∉ X.fs ∧ ∀ v, p.2.data ≠ .cell v
  hok : HOk X.prog X.w H s.heap
  len : σ.length = X.N.length

section
variable {X : Cx} {pins : List (Addr × Obj)} {σ : List (Option V)} {H H' : Hp} {s : Shared} {h' : Heap}

theorem Cx.Ok.nofr (ok : X.Ok) {b : Addr} {o : Obj} (e : X.base.get? b = some o) : b ∉ X.fs := fun hb => by
  have := (ok.funs.mem hb).1
  rw [e] at this; cases this
theorem Inv.bs (I : Inv X pins σ H s) : ∀ b o, X.base.get? b = some o → s.heap.get? b = some o ∧ H b = none := fun b o e =>
  ⟨I.base.keep b o (I.ok.bs b o e).1 (I.ok.bs b o e).2 (I.ok.nofr e) (I.ok.noex b o e), I.base.free b o (I.ok.bs b o e).1 (I.ok.bs b o e).2 (I.ok.noex b o e)⟩
theorem Inv.bk (I : Inv X pins σ H s) : ∀ b o, X.base.get? b = some o → s.heap.get? b = some o := fun b o e => (I.bs b o e).1
theorem Inv.mod (I : Inv X pins σ H s) : Mod X.K X.mg X.base := I.ok.mod
theorem Inv.kIn (I : Inv X pins σ H s) : X.K.In s.heap := I.ok.mod.kin.keeps I.bk
theorem Inv.nolimit (I : Inv X pins σ H s) : s.heap.NoLimit := I.ok.mod.nolimit.keeps I.bk
theorem Inv.lt (I : Inv X pins σ H s) : X.env.locals < s.heap.objs.size := let ⟨_, hn, _⟩ := I.loc; hn.lt
theorem Inv.sz (I : Inv X pins σ H s) : X.s_0.heap.objs.size ≤ s.heap.objs.size := Nat.le_trans I.ok.above (Nat.le_of_lt I.lt)
theorem Inv.nofs (I : Inv X pins σ H s) {a : Addr} (h : s.heap.objs.size ≤ a) : a ∉ X.fs := fun hb => by
  obtain ⟨_, o, ho, _⟩ := I.ok.funs.mem hb
  exact absurd (Nat.lt_of_lt_of_le (Heap.lt_size ho) (Nat.le_trans I.sz h)) (Nat.lt_irrefl _)
theorem Inv.cne (I : Inv X pins σ H s) : ∀ x c, X.env.cells.lookup x = some c → c ≠ X.env.locals := fun x c e z => by
  obtain ⟨v, o, ho, hd⟩ := I.cell x c e
  obtain ⟨m, ⟨o', es, ep, ho', hd', _⟩, _⟩ := I.loc
  rw [z, ho'] at ho; cases ho; rw [hd'] at hd; cases hd
theorem Inv.funs (I : Inv X pins σ H s) : s.heap.FunFrames X.base X.outer := by
  have all : ∀ (l : List Env), (∀ b ∈ frs l, b ∈ X.fs) → X.s_0.heap.FunFrames X.base l → s.heap.FunFrames X.base l := by
    intro l
    induction l with
    | nil => intro _ _; trivial
    | cons env r ih =>
      intro hs hl
      obtain ⟨hk, ⟨L, o, hf, hn, ho, hd⟩, hr⟩ := hl
      have hL : L ∈ X.fs := hs L (by unfold frs; rw [List.filterMap_cons, hf]; exact List.mem_cons_self)
      obtain ⟨sl, e⟩ := I.base.slot L o ho (I.ok.frf L hL) hL fun z => I.ok.exfs L z hL
      exact ⟨hk, ⟨L, _, hf, hn, e, hd⟩, ih (fun b hb => hs b (by unfold frs; rw [List.filterMap_cons, hf]; exact List.mem_cons_of_mem _ hb)) hr⟩
  exact all X.outer (fun _ hb => hb) I.ok.funs

theorem Inv.stack (I : Inv X pins σ H s) : s.heap.FunFrames X.base X.stack := by
  rcases I.ok.stk with e | ⟨e, hf⟩
  · rw [e]; exact I.funs
  · rw [e]
    obtain ⟨m, hn, _⟩ := I.loc
    refine .cons (by rw [I.ok.kind]; decide) hf hn ?_ I.funs
    exact Heap.get?_none_of_le (Nat.le_trans I.ok.bsz I.ok.above)
theorem Inv.stkSub (I : Inv X pins σ H s) : ∀ b ∈ frs X.stack, b ∈ X.env.locals :: X.fs := fun b hb => by
  rcases I.ok.stk with e | ⟨e, hf⟩
  · rw [e] at hb; exact List.mem_cons_of_mem _ hb
  · rw [e] at hb
    unfold frs at hb
    rw [List.filterMap_cons, hf] at hb
    exact hb
theorem Inv.stkFree (I : Inv X pins σ H s) : ∀ b ∈ frs X.stack, H b = none := fun b hb => by
  rcases List.mem_cons.mp (I.stkSub b hb) with e | hb
  · rw [e]; exact I.free
  · obtain ⟨_, o, ho, _⟩ := I.ok.funs.mem hb
    exact I.base.free b o ho (I.ok.frf b hb) fun z => I.ok.exfs b z hb

theorem Inv.step {g' : Array GenState} {t' : Nat} {d' : Drawn} {ch : List Addr} (I : Inv X pins σ H s)
    (hch : ∀ b ∈ ch, (b ∈ X.ex ∨ X.s_0.heap.objs.size ≤ b) ∧ b ≠ X.env.locals ∧ (∀ x c, X.env.cells.lookup x = some c → c ≠ b) ∧ ∀ p ∈ X.pn ++ pins, p.1 ≠ b)
    (keep : ∀ b o, b ≠ X.env.locals → b ∉ X.fs → b ∉ ch → s.heap.get? b = some o → H b = none → h'.get? b = some o)
    (slot : ∀ b o, b ≠ X.env.locals → b ∈ X.fs → b ∉ ch → s.heap.get? b = some o → H b = none → ∃ sl, h'.get? b = some { o with slots := sl }) (free : ∀ b o, b ∉ ch → s.heap.get? b = some o → H b = none → H' b = none)
    (there : ∀ b o, b ∉ ch → s.heap.get? b = some o → ∃ o', h'.get? b = some o')
    (tups : ∀ b xs, H b = some (.tup xs) → H' b = some (.tup xs)) (frzs : ∀ b o u, H b = some (.frz o u) → H' b = some (.frz o u)) (tbls : ∀ b ps, H b = some (.tbl ps) → ∃ more, H' b = some (.tbl (ps ++ more)))
    (ns : ∀ m, s.heap.Ns X.env.locals m → h'.Ns X.env.locals m) (hok : HOk X.prog X.w H' h') (hg : AllBare g') :
    Inv X pins σ H' { s with heap := h', gens := g', drawn := d', toks := t' } := by
  have neL : ∀ b o, X.s_0.heap.get? b = some o → b ≠ X.env.locals := fun b o e => Nat.ne_of_lt (Nat.lt_of_lt_of_le (Heap.lt_size e) I.ok.above)
  have neC : ∀ b o, X.s_0.heap.get? b = some o → b ∉ X.ex → b ∉ ch := fun b o e hx hb => by
    rcases (hch b hb).1 with z | z
    · exact hx z
    · exact absurd (Nat.lt_of_lt_of_le (Heap.lt_size e) z) (Nat.lt_irrefl _)
  have cellK : ∀ x c, X.env.cells.lookup x = some c → ∀ v, s.heap.IsCell c v → h'.IsCell c v := fun x c e v ⟨o, ho, hd⟩ => by
    have nch : c ∉ ch := fun z => (hch c z).2.2.1 x c e rfl
    by_cases hc : c ∈ X.fs
    · obtain ⟨sl, q⟩ := slot c o (I.cne x c e) hc nch ho (I.freeC x c e)
      exact ⟨_, q, hd⟩
    · exact ⟨o, keep c o (I.cne x c e) hc nch ho (I.freeC x c e), hd⟩
  refine ⟨I.ok, I.os, hg, ⟨fun b o e n hb hx => ?_, fun b o e n hb hx => ?_, fun b o e n hx => ?_, fun b o e hx => ?_, fun b xs e => tups b xs (I.base.tups b xs e), fun b o xs e => frzs b o xs (I.base.frzs b o xs e), fun b ps e => ?_⟩, ?_, fun x c e => ?_, ?_, fun x c e => ?_, fun p hp => ?_, hok, I.len⟩
  · exact keep b o (neL b o e) hb (neC b o e hx) (I.base.keep b o e n hb hx) (I.base.free b o e n hx)
  · obtain ⟨sl, e1⟩ := I.base.slot b o e n hb hx
    obtain ⟨sl', e2⟩ := slot b _ (neL b o e) hb (neC b o e hx) e1 (I.base.free b o e n hx)
    exact ⟨sl', e2⟩
  · obtain ⟨o', e1⟩ := I.base.there b o e hx
    exact free b o' (neC b o e hx) e1 (I.base.free b o e n hx)
  · obtain ⟨o', e1⟩ := I.base.there b o e hx
    exact there b o' (neC b o e hx) e1
  · obtain ⟨m1, e1⟩ := I.base.tbls b ps e
    obtain ⟨m2, e2⟩ := tbls b _ e1
    exact ⟨m1 ++ m2, by rw [e2, Array.append_assoc]⟩
  · obtain ⟨m, hn, hl⟩ := I.loc
    refine ⟨m, ns m hn, fun i x v e1 e2 e3 => ?_⟩
    obtain ⟨u, r, l⟩ := hl i x v e1 e2 e3
    refine ⟨u, r, ?_⟩
    rcases l with l | ⟨k, c, e, z⟩
    · exact .inl l
    · exact .inr ⟨k, c, e, cellK x c e _ z⟩
  · obtain ⟨v, z⟩ := I.cell x c e
    exact ⟨v, cellK x c e v z⟩
  · obtain ⟨m, ⟨o, _, _, ho, _⟩, _⟩ := I.loc
    exact free _ o (fun z => (hch _ z).2.1 rfl) ho I.free
  · obtain ⟨v, o, ho, hd⟩ := I.cell x c e
    exact free c o (fun z => (hch c z).2.2.1 x c e rfl) ho (I.freeC x c e)
  · obtain ⟨e, n, ne, nf, d⟩ := I.pin p hp
    have nch : p.1 ∉ ch := fun z => (hch p.1 z).2.2.2 p hp rfl
    exact ⟨keep p.1 p.2 ne nf nch e n, free p.1 p.2 nch e n, ne, nf, d⟩
theorem Inv.un {t' : Nat} (I : Inv X pins σ H s) (u : Un X.fs [] H H' s.heap h') (hok : HOk X.prog X.w H' h') : Inv X pins σ H' { s with heap := h', toks := t' } := by
  obtain ⟨m, ⟨o, es, ep, ho, r⟩, _⟩ := id I.loc
  obtain ⟨sl, hL⟩ := u.any ho I.free (by simp)
  exact I.step (g' := s.gens) (d' := s.drawn) (ch := []) (fun _ z => nomatch z) (fun b o _ hb _ e n => u.keep b o e n hb (by simp)) (fun b o _ hb _ e n => u.slot b o e n hb (by simp)) (fun b o _ e n => u.free b o e n (by simp)) (fun b o _ e => u.there b o e (by simp)) u.tups u.frzs u.tbls (fun m' hm => by
    obtain ⟨o', es', ep', ho', r'⟩ := hm
    rw [ho] at ho'; cases ho'
    exact ⟨_, es', ep', hL, r'⟩) hok I.bare
theorem Inv.call {g' : Array GenState} {t' : Nat} {d' : Drawn} {ch : List Addr} (I : Inv X pins σ H s) (u : Un (frs X.stack) ch H H' s.heap h') (hok : HOk X.prog X.w H' h') (hg : AllBare g')
    (hch : ∀ b ∈ ch, (b ∈ X.ex ∨ X.s_0.heap.objs.size ≤ b) ∧ b ≠ X.env.locals ∧ (∀ x c, X.env.cells.lookup x = some c → c ≠ b) ∧ ∀ p ∈ X.pn ++ pins, p.1 ≠ b) :
    Inv X pins σ H' { s with heap := h', gens := g', drawn := d', toks := t' } := by
  obtain ⟨m, ⟨o, es, ep, ho, r⟩, _⟩ := id I.loc
  obtain ⟨sl, hL⟩ := u.any ho I.free fun z => (hch _ z).2.1 rfl
  exact I.step (ch := ch) hch (fun b o hL hb hc e n => u.keep b o e n (fun z => (List.mem_cons.mp (I.stkSub b z)).elim hL hb) hc) (fun b o _ _ hc e n => u.any e n hc) (fun b o hc e n => u.free b o e n hc) (fun b o hc e => u.there b o e hc) u.tups u.frzs u.tbls (fun m' hm => by
    obtain ⟨o', es', ep', ho', r'⟩ := hm
    rw [ho] at ho'; cases ho'
    exact ⟨_, es', ep', hL, r'⟩) hok hg
theorem Inv.turned {t' : Nat} {it : Addr} (I : Inv X pins σ H s) (k : ∀ b o, b ≠ it → s.heap.get? b = some o → h'.get? b = some o) (hn : H it = none) (hL : it ≠ X.env.locals)
    (h1 : it ∈ X.ex ∨ X.s_0.heap.objs.size ≤ it) (h2 : ∀ x c, X.env.cells.lookup x = some c → c ≠ it) (h3 : ∀ p ∈ X.pn ++ pins, p.1 ≠ it) : Inv X pins σ H { s with heap := h', toks := t' } := by
  have nit : ∀ b u, H b = some u → b ≠ it := fun b u e z => by rw [z, hn] at e; cases e
  refine I.step (g' := s.gens) (d' := s.drawn) (ch := [it]) (fun b hb => ?_) (fun b o _ _ hc e _ => k b o (fun z => hc (by simp [z])) e) (fun b o _ _ hc e _ => ⟨o.slots, k b o (fun z => hc (by simp [z])) e⟩) (fun _ _ _ _ n => n)
    (fun b o hc e => ⟨o, k b o (fun z => hc (by simp [z])) e⟩) (fun _ _ e => e) (fun _ _ _ e => e) (fun b ps e => ⟨#[], by rw [e]; simp⟩) (fun m hm => ?_) (fun b u e => ?_) I.bare
  · have e : b = it := by simpa using hb
    subst e
    exact ⟨h1, hL, h2, h3⟩
  · obtain ⟨o, es, ep, ho, r⟩ := hm
    exact ⟨o, es, ep, k _ o (Ne.symm hL) ho, r⟩
  · refine (I.hok b u e).stay (fun c v hc q => k c v ?_ q) (fun _ q => q) fun _ _ q => q
    rcases hc with z | z
    · rw [z]; exact nit b u e
    · exact nit c _ z
theorem Inv.tok (I : Inv X pins σ H s) (t : Nat) : Inv X pins σ H { s with toks := t } := I.un (h' := s.heap) (t' := t) Un.refl I.hok
theorem Inv.kept {t' : Nat} (I : Inv X pins σ H s) (k : ∀ b u, s.heap.get? b = some u → h'.get? b = some u) : Inv X pins σ H { s with heap := h', toks := t' } := I.un (Un.kept k) (I.hok.kept k)
theorem Inv.laid {a : Addr} {o : HO} {t' : Nat} (I : Inv X pins σ H s) (k : ∀ b u, s.heap.get? b = some u → h'.get? b = some u) (hp : s.heap.objs.size ≤ a) (new : ObjOk X.prog X.w (upd H a o) h' a o) :
    Inv X pins σ (upd H a o) { s with heap := h', toks := t' } := I.un (Un.laid k hp (I.hok.fresh hp)) (I.hok.laid k hp new)
theorem Inv.write {x e : Addr} {o : HO} {t' : Nat} (I : Inv X pins σ H s) (mu : Mut (H x)) (he : e = x ∨ H e = some (.own x)) (k : ∀ b u, b ≠ e → s.heap.get? b = some u → h'.get? b = some u) (heo : ∃ u, h'.get? e = some u)
    (new : ObjOk X.prog X.w (upd H x o) h' x o) : Inv X pins σ (upd H x o) { s with heap := h', toks := t' } := I.un (Un.write mu he k heo) (I.hok.write mu he k heo new)
theorem Inv.pins_of {pins' : List (Addr × Obj)} (I : Inv X pins σ H s) (h : ∀ p ∈ pins', s.heap.get? p.1 = some p.2 ∧ H p.1 = none ∧ p.1 ≠ X.env.locals ∧ p.1 ∉ X.fs ∧ ∀ v, p.2.data ≠ .cell v) : Inv X pins' σ H s :=
  ⟨I.ok, I.os, I.bare, I.base, I.loc, I.cell, I.free, I.freeC, fun p hp => (List.mem_append.mp hp).elim (fun z => I.pin p (List.mem_append_left _ z)) (h p), I.hok, I.len⟩

theorem nodup_ix {N : List Str} (hN : N.Nodup) {i j : Nat} {x : Str} (a : N[i]? = some x) (b : N[j]? = some x) : i = j := by
  obtain ⟨h1, e1⟩ := List.getElem?_eq_some_iff.mp a
  obtain ⟨h2, e2⟩ := List.getElem?_eq_some_iff.mp b
  exact (List.getElem_inj hN).mp (e1.trans e2.symm)

theorem store_ok2 {M : Model} {A : Around} {E : Value → Shared → Prop} {i : Nat} {x : Str} {v : V} {u : Value} {Q : Unit → Shared → Prop} (I : Inv X pins σ H s) (hN : X.N.Nodup) (hi : X.N[i]? = some x) (hx : Loc X.env.scope x) (r : RelV v u)
    (h : ∀ s', Inv X pins (σ.set i (some v)) H s' → (∃ a, Heap.SameBut a s.heap s'.heap ∧ (a = X.env.locals ∨ X.env.cells.lookup x = some a)) → Q () s') (hf : X.fn x = true ∨ X.env.scope.names.lookup x = some .local := by first | exact .inl rfl | exact .inr rfl | assumption) : wpAny M A (storeName X.env x u) Q E s := by
  obtain ⟨m, hn, hl⟩ := id I.loc
  have hcls : (X.env.scope.kind == .class || (X.env.scope.kind == .module && X.env.locals != X.env.globals)) = false := by rw [I.ok.kind]; rfl
  have hiσ : i < σ.length := by rw [I.len]; exact (List.getElem?_eq_some_iff.mp hi).1
  have cne := I.cne
  have tracked : ∀ {a : Addr} {h' : Heap}, (∃ o, s.heap.get? a = some o ∧ H a = none) → Heap.SameBut a s.heap h' → HOk X.prog X.w H h' := fun {a h'} ha hs b ob e => by
    obtain ⟨_, _, hfree⟩ := ha
    refine (I.hok b ob e).stay (fun c w' hc q => (hs.2 c ?_).trans q) (fun _ q => q) fun _ _ q => q
    rintro rfl
    rcases hc with rfl | hc
    · rw [hfree] at e; cases e
    · rw [hfree] at hc; cases hc
  rcases hx with hk | hk
  · refine wpAny_storeName_local hk hn (fun h' hn' hs => ?_) hcls
    obtain ⟨oL, _, _, hoL, _⟩ := id hn
    refine h _ ⟨I.ok, I.os, I.bare, ⟨fun b o e n hb hx => ?_, fun b o e n hb hx => ?_, I.base.free, fun b o e hx => ?_, I.base.tups, I.base.frzs, I.base.tbls⟩, ⟨_, hn', fun j y v' e1 e2 e3 => ?_⟩, fun y c e => ?_, I.free, I.freeC, fun p hp => ?_, tracked ⟨oL, hoL, I.free⟩ hs, by simpa using I.len⟩ ⟨_, hs, .inl rfl⟩
    · exact (hs.2 b (Nat.ne_of_lt (Nat.lt_of_lt_of_le (Heap.lt_size e) I.ok.above))).trans (I.base.keep b o e n hb hx)
    · obtain ⟨sl, e1⟩ := I.base.slot b o e n hb hx
      exact ⟨sl, (hs.2 b (Nat.ne_of_lt (Nat.lt_of_lt_of_le (Heap.lt_size e) I.ok.above))).trans e1⟩
    · obtain ⟨o', e1⟩ := I.base.there b o e hx
      exact ⟨o', (hs.2 b (Nat.ne_of_lt (Nat.lt_of_lt_of_le (Heap.lt_size e) I.ok.above))).trans e1⟩
    · by_cases hj : j = i
      · subst hj
        rw [hi] at e1; cases e1
        rw [List.getElem?_set_self hiσ] at e2
        cases e2
        exact ⟨u, r, .inl ⟨hk, by simp⟩⟩
      · rw [List.getElem?_set_ne (Ne.symm hj)] at e2
        obtain ⟨u', r', q⟩ := hl j y v' e1 e2 e3
        refine ⟨u', r', ?_⟩
        rcases q with ⟨k, e⟩ | ⟨k, c, e, z⟩
        · refine .inl ⟨k, ?_⟩
          have : y ≠ x := fun e => hj (nodup_ix hN e1 (e ▸ hi))
          simp [this, e]
        · exact .inr ⟨k, c, e, z.sameBut hs (cne y c e)⟩
    · obtain ⟨w', z⟩ := I.cell y c e
      exact ⟨w', z.sameBut hs (cne y c e)⟩
    · obtain ⟨e, n, ne, nf, d⟩ := I.pin p hp
      exact ⟨(hs.2 p.1 ne).trans e, n, ne, nf, d⟩
  · have hfn : X.fn x = true := by
      rcases hf with z | z
      · exact z
      · rw [z] at hk; cases hk
    obtain ⟨c, hc⟩ := I.ok.has x (.inl hk)
    obtain ⟨w', z⟩ := I.cell x c hc
    refine wpAny_storeName_cell I.ok.kind hk hc z (fun h' hc' hs => ?_)
    obtain ⟨oc, hoc, hocd⟩ := id z
    refine h { s with heap := h' } ⟨I.ok, I.os, I.bare, ⟨fun b o e n hb hx => ?_, fun b o e n hb hx => ?_, I.base.free, fun b o e hx => ?_, I.base.tups, I.base.frzs, I.base.tbls⟩, ⟨m, hn.sameBut hs (Ne.symm (cne x c hc)), fun j y v' e1 e2 e3 => ?_⟩, fun y c' e => ?_, I.free, I.freeC, fun p hp => ?_, tracked ⟨oc, hoc, I.freeC x c hc⟩ hs, by simpa using I.len⟩ ⟨c, hs, .inr hc⟩
    · exact (hs.2 b (Nat.ne_of_lt (Nat.lt_of_lt_of_le (Heap.lt_size e) (I.ok.cab x c hfn hc)))).trans (I.base.keep b o e n hb hx)
    · obtain ⟨sl, e1⟩ := I.base.slot b o e n hb hx
      exact ⟨sl, (hs.2 b (Nat.ne_of_lt (Nat.lt_of_lt_of_le (Heap.lt_size e) (I.ok.cab x c hfn hc)))).trans e1⟩
    · obtain ⟨o', e1⟩ := I.base.there b o e hx
      exact ⟨o', (hs.2 b (Nat.ne_of_lt (Nat.lt_of_lt_of_le (Heap.lt_size e) (I.ok.cab x c hfn hc)))).trans e1⟩
    · by_cases hj : j = i
      · subst hj
        rw [hi] at e1; cases e1
        rw [List.getElem?_set_self hiσ] at e2
        cases e2
        exact ⟨u, r, .inr ⟨.inl hk, c, hc, hc'⟩⟩
      · rw [List.getElem?_set_ne (Ne.symm hj)] at e2
        obtain ⟨u', r', q⟩ := hl j y v' e1 e2 e3
        refine ⟨u', r', ?_⟩
        rcases q with q | ⟨k, c', e, z'⟩
        · exact .inl q
        · refine .inr ⟨k, c', e, z'.sameBut hs ?_⟩
          rintro rfl
          exact hj (nodup_ix hN e1 (I.ok.inj _ _ _ e hc ▸ hi))
    · by_cases hcc : c' = c
      · subst hcc; exact ⟨_, hc'⟩
      · obtain ⟨w2, z2⟩ := I.cell y c' e
        exact ⟨w2, z2.sameBut hs hcc⟩
    · obtain ⟨e, n, ne, nf, d⟩ := I.pin p hp
      refine ⟨(hs.2 p.1 ?_).trans e, n, ne, nf, d⟩
      intro q
      rw [q, hoc] at e
      have q' : oc = p.2 := Option.some.inj e
      exact d w' (by rw [← q']; exact hocd)
theorem store_ok {M : Model} {A : Around} {E : Value → Shared → Prop} {i : Nat} {x : Str} {v : V} {u : Value} {Q : Unit → Shared → Prop} (I : Inv X pins σ H s) (hN : X.N.Nodup) (hi : X.N[i]? = some x) (hx : Loc X.env.scope x) (r : RelV v u)
    (h : ∀ s', Inv X pins (σ.set i (some v)) H s' → Q () s') (hf : X.fn x = true ∨ X.env.scope.names.lookup x = some .local := by first | exact .inl rfl | exact .inr rfl | assumption) : wpAny M A (storeName X.env x u) Q E s :=
  store_ok2 I hN hi hx r (fun s' I' _ => h s' I') hf
end

abbrev XK := Value → Option Addr → Hp → Prop
abbrev St := List (Option V)
abbrev VK := V → Hp → Prop
abbrev TE := St → Hp → VK → Prop
abbrev TT := St → Hp → (Bool → Hp → Prop) → Prop
abbrev TA := St → Hp → (List V → Hp → Prop) → Prop
structure Ends where
  nx : St → Hp → Prop
  rt : VK
  bk : St → Hp → Prop := fun _ _ => False
  ct : St → Hp → Prop := fun _ _ => False
abbrev TS := Ends → St → Hp → Prop

def EP (X : Cx) (pins : List (Addr × Obj)) (σ : St) (Q : VK) (u : Value) (s' : Shared) : Prop := ∃ v H', Inv X pins σ H' s' ∧ RelV v u ∧ Q v H'
def TP (X : Cx) (pins : List (Addr × Obj)) (σ : St) (Q : Bool → Hp → Prop) (b : Bool) (s' : Shared) : Prop := ∃ H', Inv X pins σ H' s' ∧ Q b H'
def AP (X : Cx) (pins : List (Addr × Obj)) (σ : St) (Q : List V → Hp → Prop) (us : List Value) (s' : Shared) : Prop := ∃ vs H', Inv X pins σ H' s' ∧ Vals vs us ∧ Q vs H'
def SP (X : Cx) (pins : List (Addr × Obj)) (D : Ends) (f : Flow) (s' : Shared) : Prop :=
  match f with
  | .next => ∃ σ' H', Inv X pins σ' H' s' ∧ D.nx σ' H'
  | .brk => ∃ σ' H', Inv X pins σ' H' s' ∧ D.bk σ' H'
  | .cont => ∃ σ' H', Inv X pins σ' H' s' ∧ D.ct σ' H'
  | .ret u => ∃ v σ' H', Inv X pins σ' H' s' ∧ RelV v u ∧ D.rt v H'

def PE (X : Cx) (e : Expr) (t : TE) : Prop :=
  ∀ (pins : List (Addr × Obj)) (s : Shared) (σ : St) (H : Hp) (Q : VK), Inv X pins σ H s → t σ H Q → wpAny (model X.prog X.w) X.A (eval e X.env) (EP X pins σ Q) X.xe s
def PT (X : Cx) (e : Expr) (t : TT) : Prop :=
  ∀ (pins : List (Addr × Obj)) (s : Shared) (σ : St) (H : Hp) (Q : Bool → Hp → Prop), Inv X pins σ H s → t σ H Q → wpAny (model X.prog X.w) X.A (isTrue e X.env (eval e X.env)) (TP X pins σ Q) X.xe s
def PW (X : Cx) (e : Expr) (t : TT) : Prop :=
  ∀ (whole : Sem Value) (pins : List (Addr × Obj)) (s : Shared) (σ : St) (H : Hp) (Q : Bool → Hp → Prop), Inv X pins σ H s → t σ H Q → wpAny (model X.prog X.w) X.A (isTrue e X.env whole) (TP X pins σ Q) X.xe s
theorem PW.pt {X : Cx} {e : Expr} {t : TT} (h : PW X e t) : PT X e t := h _
def PA (X : Cx) (es : List Expr) (t : TA) : Prop :=
  ∀ (pos : Pos) (pins : List (Addr × Obj)) (s : Shared) (σ : St) (H : Hp) (Q : List V → Hp → Prop), Inv X pins σ H s → t σ H Q → wpAny (model X.prog X.w) X.A (spliced (backTo pos (starEach es X.env))) (AP X pins σ Q) X.xe s
def PS (X : Cx) (st : Stmt) (t : TS) : Prop :=
  ∀ (pins : List (Addr × Obj)) (s : Shared) (σ : St) (H : Hp) (D : Ends), Inv X pins σ H s → t D σ H → wpAny (model X.prog X.w) X.A (exec st X.env) (SP X pins D) X.xe s
def PSs (X : Cx) (st : List Stmt) (t : TS) : Prop :=
  ∀ (pins : List (Addr × Obj)) (s : Shared) (σ : St) (H : Hp) (D : Ends), Inv X pins σ H s → t D σ H → wpAny (model X.prog X.w) X.A (execs st X.env) (SP X pins D) X.xe s
theorem thn {α : Type} {t : Sem α} {Q Q' : α → Shared → Prop} {M : Model} {A : Around} {E : Value → Shared → Prop} {s : Shared} (h : wpAny M A t Q E s) (hQ : ∀ a s, Q a s → Q' a s) : wpAny M A t Q' E s := wpAny_mono h hQ fun _ _ x => x
end L2

namespace L2
open PySem PySem.Spec PyProof.Rows
section
variable {X : Cx}

def tVar (i : Nat) : TE := fun σ H Q => ∃ v, σ[i]? = some (some v) ∧ Q v H
def tC (v : V) : TE := fun _ H Q => Q v H
theorem pe_var {i : Nat} {x : Str} {pos : Pos} (hN : X.N[i]? = some x) (hv : Vis X.env.scope x) (hd : (x == ("__debug__" : Str)) = false := by decide) (hcd : (x == ("__classdict__" : Str)) = false := by decide) : PE X (.Name x pos) (tVar i) := by
  intro pins s σ H Q I h
  obtain ⟨v, e, h⟩ := h
  obtain ⟨m, hn, hl⟩ := I.loc
  obtain ⟨u, r, l⟩ := hl i x v hN e hv
  have fin : EP X pins σ Q u s := ⟨v, H, I, r, h⟩
  rcases l with ⟨hk, hm⟩ | ⟨hk, c, hc, hcell⟩
  · exact wpAny_Name (wpAny_loadName_local I.ok.kind hk hn hm fin) hd
  · rcases hk with hk | hk
    · exact wpAny_Name (wpAny_loadName_cell I.ok.kind hk hc hcell fin) hd
    · exact wpAny_Name (wpAny_loadName_free I.ok.kind hk hc hcell fin hcd) hd
theorem pe_int {i j pos} : PE X (.Constant (.int i) j pos) (tC (.int i)) := fun _ _ _ H _ I h => wpAny_Constant_int ⟨.int i, H, I.tok _, ⟨_, rfl⟩, h⟩
def Gl (X : Cx) (x : Str) : Prop := X.env.kindOf x = some .globalImplicit
theorem ld_glob {E : Value → Shared → Prop} {pins : List (Addr × Obj)} {s : Shared} {σ : St} {H : Hp} {x : Str} {u : Value} {pos : Pos} {Q : Value → Shared → Prop} (I : Inv X pins σ H s) (hg : Gl X x) (hm : X.mg x = some u) (h : Q u s)
    (hd : (x == ("__debug__" : Str)) = false := by decide) : wpAny (model X.prog X.w) X.A (eval (.Name x pos) X.env) Q E s :=
  Calls.Name_function_global I.ok.kind hg (Calls.loadGlobal_global (by rw [I.ok.glob]; exact I.mod.glob.keeps I.bk) hm h) hd
theorem ld_blt {E : Value → Shared → Prop} {pins : List (Addr × Obj)} {s : Shared} {σ : St} {H : Hp} {x : Str} {u : Value} {pos : Pos} {Q : Value → Shared → Prop} (I : Inv X pins σ H s) (hg : Gl X x) (hm : X.mg x = none) (hv : bootBuiltins x = some u) (h : Q u s)
    (hn : x ≠ "__name__" := by decide) (hd : (x == ("__debug__" : Str)) = false := by decide) : wpAny (model X.prog X.w) X.A (eval (.Name x pos) X.env) Q E s := by
  obtain ⟨mb, h1, h2⟩ := I.mod.blt
  exact Calls.Name_function_global I.ok.kind hg (Calls.loadGlobal_builtin (by rw [I.ok.glob]; exact I.mod.glob.keeps I.bk) hm (by rw [I.ok.blt]; exact h1.keeps I.bk) ((h2 x hn).trans hv) h) hd
theorem pe_glob {x : Str} {v : V} {u : Value} {pos : Pos} (hg : Gl X x) (hm : X.mg x = some u) (r : RelV v u) (hd : (x == ("__debug__" : Str)) = false := by decide) : PE X (.Name x pos) (tC v) :=
  fun _ _ _ H _ I h => ld_glob I hg hm ⟨v, H, I, r, h⟩ hd
variable {a b : Expr} {ta tb : TE} {pos : Pos}
def tB (t : TE) : TT := fun σ H Q => t σ H fun x H1 => ∃ c, x = .bl c ∧ Q c H1
theorem pt_val {e : Expr} {t : TE} (h : PE X e t) (he : ∀ whole, isTrue e X.env whole = (do let v ← whole; standAt e.pos; holding [v] (truthy v)) := by intro _; rfl) : PT X e (tB t) := by
  intro pins s σ H Q I hw
  refine isTrue_plain (thn (h pins s σ H _ I hw) fun v s1 ⟨x, H1, I1, r1, q1⟩ => ?_) (he _)
  obtain ⟨d, rfl, q⟩ := q1
  cases r1
  exact wpAny_truthy_bool ⟨H1, I1, q⟩

variable {tA tB' : TT} {rest : List Expr}
def tAnd (t u : TT) : TT := fun σ H Q => t σ H fun c H1 => if c = true then u σ H1 Q else Q false H1
def tOr (t u : TT) : TT := fun σ H Q => t σ H fun c H1 => if c = true then Q true H1 else u σ H1 Q
def tNot (t : TT) : TT := fun σ H Q => t σ H fun c H1 => Q (!c) H1
theorem pw_and1 (ha : PT X a tA) : PW X (.BoolOp .And [a] pos) tA := by
  intro wh pins s σ H Q I h
  refine isTrue_and (thn (ha pins s σ H Q I h) fun c s1 e => ?_)
  cases c with
  | true => exact isTrue_and_nil e
  | false => exact e
theorem pw_or1 (ha : PT X a tA) : PW X (.BoolOp .Or [a] pos) tA := by
  intro wh pins s σ H Q I h
  refine isTrue_or (thn (ha pins s σ H Q I h) fun c s1 e => ?_)
  cases c with
  | false => exact isTrue_or_nil e
  | true => exact e
theorem pw_and (ha : PT X a tA) (hb : PW X (.BoolOp .And (b :: rest) pos) tB') : PW X (.BoolOp .And (a :: b :: rest) pos) (tAnd tA tB') := by
  intro wh pins s σ H Q I h
  refine isTrue_and (thn (ha pins s σ H _ I h) fun c s1 ⟨H1, I1, q1⟩ => ?_)
  cases c with
  | true => exact hb wh pins s1 σ H1 Q I1 q1
  | false => exact ⟨H1, I1, q1⟩
theorem pw_or (ha : PT X a tA) (hb : PW X (.BoolOp .Or (b :: rest) pos) tB') : PW X (.BoolOp .Or (a :: b :: rest) pos) (tOr tA tB') := by
  intro wh pins s σ H Q I h
  refine isTrue_or (thn (ha pins s σ H _ I h) fun c s1 ⟨H1, I1, q1⟩ => ?_)
  cases c with
  | true => exact ⟨H1, I1, q1⟩
  | false => exact hb wh pins s1 σ H1 Q I1 q1
def tAndV (ta tb : TE) : TE := fun σ H Q => ta σ H fun x H1 => ∃ c, x = .bl c ∧ if c = true then tb σ H1 Q else Q (.bl false) H1
def tOrV (ta tb : TE) : TE := fun σ H Q => ta σ H fun x H1 => ∃ c, x = .bl c ∧ if c = true then Q (.bl true) H1 else tb σ H1 Q
def tNotV (ta : TE) : TE := fun σ H Q => ta σ H fun x H1 => ∃ c, x = .bl c ∧ Q (.bl (!c)) H1
theorem pe_one {op} {t : TE} (h : PE X a t) : PE X (.BoolOp op [a] pos) t := fun pins s σ H Q I hw => BoolOp_one (h pins s σ H Q I hw)
theorem pe_and (ha : PE X a ta) (hb : PE X (.BoolOp .And (b :: rest) pos) tb) : PE X (.BoolOp .And (a :: b :: rest) pos) (tAndV ta tb) := by
  intro pins s σ H Q I h
  refine BoolOp_and (thn (ha pins s σ H _ I h) fun v s1 ⟨x, H1, I1, r1, q1⟩ => ?_)
  obtain ⟨c, rfl, q1⟩ := q1
  cases r1
  refine wpAny_truthy_bool ?_
  cases c with
  | true => exact hb pins s1 σ H1 Q I1 q1
  | false => exact ⟨.bl false, H1, I1, rfl, q1⟩
def tIf (t : TT) (ta tb : TE) : TE := fun σ H Q => t σ H fun c H1 => if c = true then ta σ H1 Q else tb σ H1 Q
theorem pe_ifExp {c : Expr} (hc : PT X c tA) (ha : PE X a ta) (hb : PE X b tb) : PE X (.IfExp c a b pos) (tIf tA ta tb) := by
  intro pins s σ H Q I h
  refine wpAny_IfExp (thn (hc pins s σ H _ I h) fun d s1 ⟨H1, I1, q1⟩ => ?_)
  cases d with
  | true => exact ha pins s1 σ H1 Q I1 q1
  | false => exact hb pins s1 σ H1 Q I1 q1
end
end L2

namespace L2
open PySem PySem.Spec PyProof.Rows

def SqL (K : PySem.W.Frag) (H : Hp) (a : Addr) (xs : List V) : Prop :=
  Rd H a (.lst xs) ∨
    ∃ (o : Obj) (its : Array Value) (n : Nat), K.lookup a = some o ∧ o.cls = .type "list" ∧ o.dict = none ∧ o.data = .seq its n ∧ its.size ≤ sizeLine ∧ Vals xs its.toList
def SqT (K : PySem.W.Frag) (H : Hp) (a : Addr) (xs : List V) : Prop :=
  Rd H a (.tup xs) ∨
    ∃ (o : Obj) (its : Array Value) (n : Nat), K.lookup a = some o ∧ o.cls = .type "tuple" ∧ o.data = .seq its n ∧ its.size ≤ sizeLine ∧ Vals xs its.toList
def absV : Value → Option V
  | .none => some .non
  | .bool b => some (.bl b)
  | .int i _ => some (.int i)
  | .str x _ => some (.str x)
  | .bytes b _ => some (.byt b)
  | .float b _ => some (.flt b)
  | .ref a => some (.ref a)
  | .type n => some (.ty n)
  | _ => none
theorem RelV.abs {x : V} {u : Value} (r : RelV x u) : absV u = some x := by
  cases x with
  | non => cases r; rfl
  | bl _ => cases r; rfl
  | int _ => obtain ⟨t, rfl⟩ := r; rfl
  | str _ => obtain ⟨t, rfl⟩ := r; rfl
  | byt _ => obtain ⟨t, rfl⟩ := r; rfl
  | flt _ => obtain ⟨t, rfl⟩ := r; rfl
  | ref _ => cases r; rfl
  | ty _ => cases r; rfl
theorem RelV.inj {x y : V} {u : Value} (r : RelV x u) (q : RelV y u) : x = y := Option.some.inj (r.abs.symm.trans q.abs)
theorem Vals.inj : ∀ {xs ys : List V} {us : List Value}, Vals xs us → Vals ys us → xs = ys
  | _, _, _, .nil, .nil => rfl
  | _, _, _, .cons r t, .cons r' t' => by rw [r.inj r', Vals.inj t t']
section
variable {X : Cx} {pins : List (Addr × Obj)} {σ : St} {H : Hp} {s : Shared} {a : Addr} {xs ys : List V}
theorem SqL.of {K : PySem.W.Frag} (h : H a = some (.lst xs)) : SqL K H a xs := .inl (.inl h)
theorem SqT.of {K : PySem.W.Frag} (h : H a = some (.tup xs)) : SqT K H a xs := .inl (.inl h)
theorem Inv.list (I : Inv X pins σ H s) (h : SqL X.K H a xs) : ∃ its : List Value, Vals xs its ∧ PlainL s.heap a its.toArray ∧ xs.length ≤ sizeLine := by
  rcases h with h | ⟨o, its, n, hk, hc, hd, hs, hz, r⟩
  · obtain ⟨z, its, n, r, e⟩ := h.ok I.hok
    exact ⟨its, r, ⟨_, n, e, rfl, rfl, rfl⟩, z⟩
  · refine ⟨its.toList, r, ⟨o, n, I.kIn a o hk, hc, hd, by simpa using hs⟩, ?_⟩
    have e := r.length
    simp only [Array.length_toList] at e
    omega
theorem Inv.tuple (I : Inv X pins σ H s) (h : SqT X.K H a xs) : ∃ its : List Value, Vals xs its ∧ IsTup s.heap a its.toArray ∧ xs.length ≤ sizeLine := by
  rcases h with h | ⟨o, its, n, hk, hc, hs, hz, r⟩
  · obtain ⟨z, its, r, p⟩ := h.ok I.hok
    exact ⟨its, r, p, z⟩
  · refine ⟨its.toList, r, ⟨o, I.kIn a o hk, hc, n, by simpa using hs⟩, ?_⟩
    have e := r.length
    simp only [Array.length_toList] at e
    omega
end

abbrev Cx.wish (X : Cx) (E : Value → Shared → Prop) : Cx := { X with xe := E }
abbrev Cx.nox (X : Cx) : Cx := X.wish fun _ _ => False
theorem Cx.Ok.wish {X : Cx} (ok : X.Ok) (E : Value → Shared → Prop) : (X.wish E).Ok :=
  ⟨ok.mod, ok.kind, ok.glob, ok.blt, ok.above, ok.inj, ok.has, ok.cab, ok.hd, ok.frames, ok.stk, ok.exf, ok.bs, ok.bsz, ok.noex, ok.exfs, ok.funs, ok.frf⟩
theorem Cx.Ok.unwish {X : Cx} {E : Value → Shared → Prop} (ok : (X.wish E).Ok) : X.Ok :=
  ⟨ok.mod, ok.kind, ok.glob, ok.blt, ok.above, ok.inj, ok.has, ok.cab, ok.hd, ok.frames, ok.stk, ok.exf, ok.bs, ok.bsz, ok.noex, ok.exfs, ok.funs, ok.frf⟩
section
variable {X : Cx} {pins : List (Addr × Obj)} {σ : St} {H : Hp} {s : Shared} {E : Value → Shared → Prop}
theorem Inv.wish (I : Inv X pins σ H s) (E : Value → Shared → Prop) : Inv (X.wish E) pins σ H s := ⟨I.ok.wish E, I.os, I.bare, I.base, I.loc, I.cell, I.free, I.freeC, I.pin, I.hok, I.len⟩
theorem Inv.unwish (I : Inv (X.wish E) pins σ H s) : Inv X pins σ H s := ⟨I.ok.unwish, I.os, I.bare, I.base, I.loc, I.cell, I.free, I.freeC, I.pin, I.hok, I.len⟩
theorem SP.unwish {D : Ends} {f : Flow} {s' : Shared} (h : SP (X.wish E) pins D f s') : SP X pins D f s' := by
  cases f with
  | next => obtain ⟨σ', H', I, q⟩ := h; exact ⟨σ', H', I.unwish, q⟩
  | brk => obtain ⟨σ', H', I, q⟩ := h; exact ⟨σ', H', I.unwish, q⟩
  | cont => obtain ⟨σ', H', I, q⟩ := h; exact ⟨σ', H', I.unwish, q⟩
  | ret u => obtain ⟨v, σ', H', I, r, q⟩ := h; exact ⟨v, σ', H', I.unwish, r, q⟩
theorem PE.nox {e : Expr} {t : TE} (h : PE X.nox e t) : PE X e t := fun pins s σ H Q I hw =>
  wpAny_mono (h pins s σ H Q (I.wish _) hw) (fun _ _ ⟨v, H', I', r, q⟩ => ⟨v, H', I'.unwish, r, q⟩) fun _ _ z => False.elim z
theorem PT.nox {e : Expr} {t : TT} (h : PT X.nox e t) : PT X e t := fun pins s σ H Q I hw =>
  wpAny_mono (h pins s σ H Q (I.wish _) hw) (fun _ _ ⟨H', I', q⟩ => ⟨H', I'.unwish, q⟩) fun _ _ z => False.elim z
theorem PSs.nox {st : List Stmt} {t : TS} (h : PSs X.nox st t) : PSs X st t := fun pins s σ H D I hw =>
  wpAny_mono (h pins s σ H D (I.wish _) hw) (fun _ _ q => q.unwish) fun _ _ z => False.elim z
end

section
variable {X : Cx} {st : Stmt} {rest : List Stmt} {t u : TS} {e : Expr} {te : TE} {pos : Pos}
def tNext : TS := fun D σ H => D.nx σ H
def tSeq (t u : TS) : TS := fun D σ H => t { D with nx := u D } σ H
theorem pss_nil : PSs X [] tNext := fun _ _ σ H _ I h => wpAny_execs_nil ⟨σ, H, I, h⟩
theorem pss_cons (h1 : PS X st t) (h2 : PSs X rest u) : PSs X (st :: rest) (tSeq t u) := by
  intro pins s σ H D I h
  refine wpAny_execs_cons (thn (h1 pins s σ H { D with nx := u D } I h) fun f s1 q => ?_)
  cases f with
  | next =>
    obtain ⟨σ', H', I', q⟩ := q
    exact h2 pins s1 σ' H' D I' q
  | ret v => exact q
  | brk => exact q
  | cont => exact q
theorem pss_one (h1 : PS X st t) : PSs X [st] t := by
  intro pins s σ H D I h
  refine wpAny_execs_cons (thn (h1 pins s σ H D I h) fun f s1 q => ?_)
  cases f with
  | next => exact wpAny_execs_nil q
  | ret v => exact q
  | brk => exact q
  | cont => exact q
def tDrop (te : TE) : TS := fun D σ H => te σ H fun _ H1 => D.nx σ H1
def tRet (te : TE) : TS := fun D σ H => te σ H D.rt
theorem ps_ret (he : PE X e te) : PS X (.Return (some e) pos) (tRet te) := by
  intro pins s σ H D I h
  exact wpAny_Return_some (thn (he pins s σ H _ I h) fun v s1 ⟨x, H1, I1, r1, q1⟩ => ⟨x, σ, H1, I1, r1, q1⟩)
def tIfS (c : TT) (t u : TS) : TS := fun D σ H => c σ H fun b H1 => if b = true then t D σ H1 else u D σ H1
theorem ps_if {c : Expr} {a b : List Stmt} {tc : TT} (hc : PT X c tc) (ha : PSs X a t) (hb : PSs X b u) : PS X (.If c a b pos) (tIfS tc t u) := by
  intro pins s σ H D I h
  refine wpAny_If (thn (hc pins s σ H _ I h) fun d s1 ⟨H1, I1, q1⟩ => ?_)
  cases d with
  | true => exact ha pins s1 σ H1 D I1 q1
  | false => exact hb pins s1 σ H1 D I1 q1
end

abbrev TG := V → St → Hp → (St → Hp → Prop) → Prop
def PG (X : Cx) (target : Expr) (t : TG) : Prop :=
  ∀ (pins : List (Addr × Obj)) (s : Shared) (σ : St) (H : Hp) (v : V) (u : Value) (Q : St → Hp → Prop), Inv X pins σ H s → RelV v u → t v σ H Q →
    wpAny (model X.prog X.w) X.A (assign target X.env u) (fun _ s' => ∃ σ' H', Inv X pins σ' H' s' ∧ Q σ' H') X.xe s
section
variable {X : Cx} {pos : Pos}
def gName (i : Nat) : TG := fun v σ H Q => Q (σ.set i (some v)) H
theorem pg_name {i : Nat} {x : Str} (hN : X.N.Nodup) (hi : X.N[i]? = some x) (hx : Loc X.env.scope x) (hf : X.fn x = true ∨ X.env.scope.names.lookup x = some .local := by first | exact .inl rfl | exact .inr rfl | assumption) : PG X (.Name x pos) (gName i) := by
  intro pins s σ H v u Q I r h
  exact wpAny_assign_Name (store_ok I hN hi hx r (fun s' I' => ⟨_, H, I', h⟩) hf)
def tAsg (te : TE) (g : TG) : TS := fun D σ H => te σ H fun x H1 => g x σ H1 D.nx
theorem ps_set {i : Nat} {x : Str} {e : Expr} {te : TE} {pos' : Pos} (hN : X.N.Nodup) (hi : X.N[i]? = some x) (hx : Loc X.env.scope x) (he : PE X e te) (hs : swapsWith e (some (.Name x pos')) pos.line X.env = pure false := by rfl) (hf : X.fn x = true ∨ X.env.scope.names.lookup x = some .local := by first | exact .inl rfl | exact .inr rfl | assumption) :
    PS X (.Assign [.Name x pos'] e pos) (tAsg te (gName i)) := by
  intro pins s σ H D I h
  refine wpAny_Assign_Name (thn (he pins s σ H _ I h) fun v s1 ⟨y, H1, I1, r1, q1⟩ => ?_) hs
  exact store_ok I1 hN hi hx r1 (fun s2 I2 => ⟨_, H1, I2, q1⟩) hf
end

section
variable {X : Cx} {pos : Pos}
def tWhile (c : TT) (tb : TS) : TS := fun D σ H => ∃ W : Nat → St → Hp → Prop, (∃ m, W m σ H) ∧ ∀ m σ H, W m σ H →
  c σ H fun b H1 => if b = true then ∃ N : St → Hp → Prop, (∀ σ' H', N σ' H' → ∃ m', m' < m ∧ W m' σ' H') ∧ tb { D with nx := N, ct := N, bk := D.nx } σ H1 else D.nx σ H1
theorem ps_while {c : Expr} {body : List Stmt} {tc : TT} {tb : TS} (hp : PassesOwn (model X.prog X.w) X.A X.env X.xe) (hc : PT X c tc) (hb : PSs X body tb) : PS X (.While c body [] pos) (tWhile tc tb) := by
  intro pins s σ H D I h
  obtain ⟨W, ⟨m0, w0⟩, turn⟩ := h
  refine wpAny_While (codeAny_whileLoop (fun n s' => ∃ σ' H', Inv X pins σ' H' s' ∧ W n σ' H') ?_ m0 ⟨σ, H, I, w0⟩)
  rintro n s1 ⟨σ1, H1, I1, w1⟩
  refine wpAny_passesOwn hp (thn (hc pins s1 σ1 H1 _ I1 (turn n σ1 H1 w1)) fun b s2 ⟨H2, I2, q2⟩ => ?_)
  cases b with
  | true =>
    obtain ⟨N, hN, q2⟩ := q2
    rw [if_pos rfl]
    refine wpAny_passesOwn hp (thn (hb pins s2 σ1 H2 _ I2 q2) fun f s3 q3 => ?_)
    cases f with
    | next =>
      obtain ⟨σ3, H3, I3, n3⟩ := q3
      obtain ⟨m', hm, w3⟩ := hN σ3 H3 n3
      exact ⟨m', hm, σ3, H3, I3, w3⟩
    | cont =>
      obtain ⟨σ3, H3, I3, n3⟩ := q3
      obtain ⟨m', hm, w3⟩ := hN σ3 H3 n3
      exact ⟨m', hm, σ3, H3, I3, w3⟩
    | brk => exact q3
    | ret v => exact q3
  | false =>
    rw [if_neg Bool.false_ne_true]
    exact wpAny_execs_nil ⟨σ1, H2, I2, q2⟩
end

structure It where
  go : Nat → Hp → Prop
  yld : Nat → Hp → V → Hp → Prop
  stop : Nat → Hp → Prop
def FpOk (X : Cx) (pins : List (Addr × Obj)) (H : Hp) (b : Addr) : Prop :=
  H b = none ∧ b ≠ X.env.locals ∧ b ∉ X.fs ∧ (b ∈ X.ex ∨ X.s_0.heap.objs.size ≤ b) ∧ (∀ x c, X.env.cells.lookup x = some c → c ≠ b) ∧ ∀ p ∈ X.pn ++ pins, p.1 ≠ b
theorem Inv.fpOk {X : Cx} {pins : List (Addr × Obj)} {σ : St} {H H' : Hp} {s : Shared} {b : Addr} (I : Inv X pins σ H s) (hb : s.heap.objs.size ≤ b) (hn : H' b = none) : FpOk X pins H' b := by
  refine ⟨hn, Nat.ne_of_gt (Nat.lt_of_lt_of_le I.lt hb), I.nofs hb, .inr (Nat.le_trans I.sz hb), fun x c e z => ?_, fun p hp z => ?_⟩
  · obtain ⟨v, q⟩ := I.cell x c e
    exact absurd (Nat.lt_of_lt_of_le q.lt (by rw [z]; exact hb)) (Nat.lt_irrefl _)
  · exact absurd (Nat.lt_of_lt_of_le (Heap.lt_size (I.pin p hp).1) (by rw [z]; exact hb)) (Nat.lt_irrefl _)
structure Turn (P : Program) (w : World) (K : PySem.W.Frag) (tg : Expr) (J : It) (fp : List Addr) (it : Addr) (tn : Nat → Heap → Prop) : Prop where
  mem : it ∈ fp
  obj : ∀ i h, tn i h → ∀ b ∈ fp, ∃ o, h.get? b = some o ∧ ∀ v, o.data ≠ .cell v
  keep : ∀ i h h', tn i h → (∀ b ∈ fp, ∀ o, h.get? b = some o → h'.get? b = some o) → tn i h'
  item : ∀ (X : Cx), X.prog = P → X.w = w → X.K = K → X.calm = true → ∀ (i : Nat) (pins : List (Addr × Obj)) (s : Shared) (σ : St) (H : Hp) (E : Value → Shared → Prop), Inv X pins σ H s → (∀ b ∈ fp, FpOk X pins H b) → tn i s.heap → J.go i H →
    wpAny (model P w) X.A (pyNext (.ref it)) (fun r s1 => ∃ u, r = some u ∧
      wpAny (model P w) X.A (letOwnedTupleGo tg (.ref it) u) (fun _ s2 => ∃ x H', Inv X pins σ H' s2 ∧ RelV x u ∧ J.yld i H x H' ∧ tn (i + 1) s2.heap ∧ ∀ b ∈ fp, H' b = none) E s1) E s
  done : ∀ (X : Cx), X.prog = P → X.w = w → X.K = K → X.calm = true → ∀ (i : Nat) (pins : List (Addr × Obj)) (s : Shared) (σ : St) (H : Hp) (E : Value → Shared → Prop), Inv X pins σ H s → (∀ b ∈ fp, FpOk X pins H b) → tn i s.heap → J.stop i H →
    wpAny (model P w) X.A (pyNext (.ref it)) (fun r s1 => r = none ∧ Inv X pins σ H s1) E s
  self : ∀ (A : Around) (i : Nat) (s : Shared) (Q : Value → Shared → Prop) (E : Value → Shared → Prop), tn i s.heap → Q (.ref it) s → wpAny (model P w) A (pyIter (.ref it)) Q E s
abbrev TI := St → Hp → (It → Hp → Prop) → Prop
def PIE (X : Cx) (pins : List (Addr × Obj)) (σ : St) (tg : Expr) (R : It → Hp → Prop) (itv : Value) (s2 : Shared) : Prop :=
  ∃ (it : Addr) (fp : List Addr) (tn : Nat → Heap → Prop) (J : It) (H' : Hp), itv = .ref it ∧ Inv X pins σ H' s2 ∧ Turn X.prog X.w X.K tg J fp it tn ∧ tn 0 s2.heap ∧ (∀ b ∈ fp, FpOk X pins H' b) ∧ R J H'
def PI (X : Cx) (tg iter : Expr) (wi : TI) : Prop :=
  ∀ (pins : List (Addr × Obj)) (s : Shared) (σ : St) (H : Hp) (R : It → Hp → Prop), Inv X pins σ H s → wi σ H R →
    wpAny (model X.prog X.w) X.A (eval iter X.env) (fun v s1 => wpAny (model X.prog X.w) X.A (pyIter v) (PIE X pins σ tg R) X.xe s1) X.xe s

theorem go_of {M : Model} {A : Around} {E : Value → Shared → Prop} {s : Shared} {tg : Expr} {it : Addr} {u : Value} {o : Obj} {n : String} {vs : Array Value} {Q : Unit → Shared → Prop} (ho : s.heap.get? it = some o) (hc : o.cls = .type n) (hd : o.data = .fields vs)
    (hn : ["enumerate", "zip", "dict_itemiterator", "dict_reverseitemiterator", "odict_iterator", "itertools.zip_longest", "itertools.pairwise"].contains n = false) (hQ : Q () s) : wpAny M A (letOwnedTupleGo tg (.ref it) u) Q E s := by
  unfold letOwnedTupleGo
  cases tg <;> first
    | exact wpAny_pure hQ
    | (cases u <;> first
        | exact wpAny_pure hQ
        | (refine wpAny_bind (wpAny_load ho ?_)
           rw [hc, hd]
           show wpAny M A (if (["enumerate", "zip", "dict_itemiterator", "dict_reverseitemiterator", "odict_iterator", "itertools.zip_longest", "itertools.pairwise"].contains n && vs[0]? == some (rawInt _)) = true then _ else _) Q E s
           rw [if_neg (by intro h; rw [hn, Bool.false_and] at h; cases h)]
           exact wpAny_pure hQ))

def Itr (lo : Int) (n : Nat) : It := ⟨fun i _ => i < n, fun i H x H' => H' = H ∧ x = .int (lo + i), fun i _ => n ≤ i⟩
theorem turn_range {P : Program} {w : World} {K : PySem.W.Frag} {tg : Expr} (it : Addr) (lo : Int) (n : Nat) : Turn P w K tg (Itr lo n) [it] it (fun i h => IsRangeIter h it (lo + (i : Nat) * 1) ((n : Int) - (i : Nat)) 1) where
  mem := by simp
  obj := fun i h st b hb => by
    have e : b = it := by simpa using hb
    subst e
    exact ⟨_, st, fun v z => by
      have z' : Data.fields _ = Data.cell v := z
      cases z'⟩
  keep := fun i h h' st k => k it (by simp) _ st
  item := by
    intro X hP hw hK hc i pins s σ H E I hf st hg
    subst hP hw hK
    obtain ⟨f0, f1, f2, f3, f4, f5⟩ := hf it (by simp)
    have W := Walks.range (prog := X.prog) (w := X.w) (I.ok.hd hc) it lo 1 n
    refine W.item i s _ _ hg st fun v h' tk hv st' kk => ?_
    obtain ⟨t, rfl⟩ := hv
    have I1 : Inv X pins σ H { s with heap := h', toks := tk } := I.turned (fun b o hb e => kk b o (by simpa using hb) e) f0 f1 f3 f4 f5
    refine ⟨_, rfl, go_of (s := { s with heap := h', toks := tk }) (n := "range_iterator") st' rfl rfl (by decide) ⟨.int (lo + i), H, I1, ⟨t, ?_⟩, ⟨rfl, rfl⟩, st', fun b hb => (hf b hb).1⟩⟩
    rw [Int.mul_one]
  done := by
    intro X hP hw hK hc i pins s σ H E I hf st hg
    subst hP hw hK
    obtain ⟨f0, f1, f2, f3, f4, f5⟩ := hf it (by simp)
    exact wpAny_pyNext_range_end (I.ok.hd hc) st (by have : n ≤ i := hg; omega) fun h' eb => ⟨rfl, I.turned (t' := s.toks) (fun b o hb e => eb b o hb e) f0 f1 f3 f4 f5⟩
  self := fun _ _ _ _ _ st h => wpAny_pyIter_rangeiter st h
end L2

namespace L2
open PySem PySem.Spec PyProof.Rows
section
variable {X : Cx} {tg : Expr}
theorem range_it {pins : List (Addr × Obj)} {σ : St} {H : Hp} {s : Shared} {R : It → Hp → Prop} {E : Value → Shared → Prop} {lo hi : Int} {t u v : Tok} {tk : Nat} (I : Inv X pins σ H s) (h1 : -(2 ^ 62) ≤ lo) (h2 : lo < 2 ^ 62) (h3 : -(2 ^ 62) ≤ hi) (h4 : hi < 2 ^ 62)
    (q : R (Itr lo (hi - lo).toNat) H) : wpAny (model X.prog X.w) X.A (pyIter (.ref s.heap.objs.size)) (PIE X pins σ tg R) E { s with heap := s.heap.push { cls := .type "range", data := .fields #[.int lo t, .int hi u, .int 1 v] }, toks := tk } := by
  refine wpAny_pyIter_range (IsRange.new ..) (small_one h1 h2 h3 h4) ?_
  have I1 : Inv X pins σ H { s with heap := s.heap.push { cls := .type "range", data := .fields #[.int lo t, .int hi u, .int 1 v] }, toks := tk } := I.kept fun b o e => Heap.get?_push_of_some _ e
  refine ⟨(s.heap.push { cls := .type "range", data := .fields #[.int lo t, .int hi u, .int 1 v] }).objs.size, [(s.heap.push { cls := .type "range", data := .fields #[.int lo t, .int hi u, .int 1 v] }).objs.size], _, _, H, rfl,
    I1.kept (t' := tk) fun b o e => Heap.get?_push_of_some _ e, turn_range _ lo (hi - lo).toNat, ?_, fun b hb => ?_, q⟩
  · have e1 : lo + ((0 : Nat) : Int) * 1 = lo := by simp
    have e2 : (((hi - lo).toNat : Nat) : Int) - ((0 : Nat) : Int) = Builtin.Range.rangeSize lo hi 1 := by rw [rangeSize_one]; split <;> omega
    show IsRangeIter _ _ (lo + ((0 : Nat) : Int) * 1) ((((hi - lo).toNat : Nat) : Int) - ((0 : Nat) : Int)) 1
    rw [e1, e2]
    exact Heap.get?_push_size _ rfl
  · have e : b = (s.heap.push { cls := .type "range", data := .fields #[.int lo t, .int hi u, .int 1 v] }).objs.size := by simpa using hb
    subst e
    exact I1.fpOk (Nat.le_refl _) (I1.hok.fresh (Nat.le_refl _))
def iRng1 (ta : TA) : TI := fun σ H R => ta σ H fun vs H1 => ∃ j : Int, vs = [.int j] ∧ -(2 ^ 62) ≤ j ∧ j < 2 ^ 62 ∧ R (Itr 0 j.toNat) H1
theorem pi_range1 {a : Expr} {ta : TA} {p pos : Pos} (hg : Gl X "range") (hm : X.mg "range" = none) (ha : PA X [a] ta) (hs : starEach [a] X.env = [(false, eval a X.env)] := by rfl) : PI X tg (.Call (.Name "range" p) [a] [] pos) (iRng1 ta) := by
  intro pins s σ H R I h
  refine Call_ (ld_blt I hg hm boot_range (PyProof.Rows.callWith_type1 (thn (ha pos pins s σ H _ I h) fun us s1 ⟨vs, H1, I1, r1, q1⟩ => ?_) hs rfl))
  obtain ⟨j, e, q1, q2, q⟩ := q1
  subst e
  cases r1 with
  | cons r rr =>
    cases rr
    obtain ⟨t, rfl⟩ := r
    exact call_range_1 (range_it I1 (by omega) (by omega) q1 q2 (by simpa using q))
def tFor (wi : TI) (g : TG) (tb : TS) : TS := fun D σ H => wi σ H fun J H1 => ∃ W : Nat → Nat → St → Hp → Prop, (∃ m, W 0 m σ H1) ∧ ∀ i m σ H, W i m σ H →
  (J.stop i H ∧ D.nx σ H) ∨ (J.go i H ∧ ∃ N : St → Hp → Prop, (∀ σ' H', N σ' H' → ∃ m', m' < m ∧ W (i + 1) m' σ' H') ∧ ∀ x H', J.yld i H x H' → g x σ H' fun σ2 H2 => tb { D with nx := N, ct := N, bk := D.nx } σ2 H2)
def pinsAt (fp : List Addr) (h : Heap) : List (Addr × Obj) := fp.filterMap fun b => (h.get? b).map fun o => (b, o)
theorem mem_pinsAt {fp : List Addr} {h : Heap} {b : Addr} {o : Obj} (hb : b ∈ fp) (e : h.get? b = some o) : (b, o) ∈ pinsAt fp h := List.mem_filterMap.mpr ⟨b, hb, by rw [e]; rfl⟩
theorem of_pinsAt {fp : List Addr} {h : Heap} {p : Addr × Obj} (hp : p ∈ pinsAt fp h) : p.1 ∈ fp ∧ h.get? p.1 = some p.2 := by
  obtain ⟨b, hb, e⟩ := List.mem_filterMap.mp hp
  cases q : h.get? b with
  | none => rw [q] at e; cases e
  | some o =>
    rw [q] at e
    have e' : (b, o) = p := Option.some.inj e
    subst e'
    exact ⟨hb, q⟩
theorem Inv.pinned {pins : List (Addr × Obj)} {σ : St} {H : Hp} {s : Shared} {fp : List Addr} (I : Inv X pins σ H s) (hf : ∀ b ∈ fp, FpOk X pins H b) (ho : ∀ b ∈ fp, ∃ o, s.heap.get? b = some o ∧ ∀ v, o.data ≠ .cell v) : Inv X (pins ++ pinsAt fp s.heap) σ H s :=
  I.pins_of fun p hp => (List.mem_append.mp hp).elim (fun z => I.pin p (List.mem_append_right _ z)) fun z => by
    obtain ⟨hb, e⟩ := of_pinsAt z
    obtain ⟨f0, f1, f2, _⟩ := hf p.1 hb
    obtain ⟨o, e', d⟩ := ho p.1 hb
    rw [e] at e'; cases e'
    exact ⟨e, f0, f1, f2, d⟩
theorem Inv.unpinned {pins pl : List (Addr × Obj)} {σ : St} {H : Hp} {s : Shared} (I : Inv X (pins ++ pl) σ H s) : Inv X pins σ H s := I.pins_of fun p hp => I.pin p (List.mem_append_right _ (List.mem_append_left _ hp))
theorem ps_for {iter : Expr} {body : List Stmt} {wi : TI} {g : TG} {tb : TS} {pos : Pos} (hp : PassesOwn (model X.prog X.w) X.A X.env X.xe) (hc : X.calm = true) (hi : PI X tg iter wi) (hg : PG X tg g) (hb : PSs X body tb)
    (hs : ∀ x, foldedSetIterable iter X.env x = pure x := by intro _; rfl) : PS X (.For tg iter body [] pos) (tFor wi g tb) := by
  intro pins s σ H D I h
  refine wpAny_For (thn (hi pins s σ H _ I h) fun v s1 h1 => thn h1 fun itv s2 h2 => ?_) hs
  obtain ⟨it, fp, tn, J, H2, e, I2, T, st2, f2, W, ⟨m0, w0⟩, turn⟩ := h2
  subst e
  -- what stays true of the iterator's objects through the loop
  have stat : ∀ {H' : Hp}, (∀ b ∈ fp, H' b = none) → ∀ b ∈ fp, FpOk X pins H' b := fun hn b hb => ⟨hn b hb, (f2 b hb).2⟩
  refine codeAny_forLoop_any (fun n s' => ∃ i σ' H', Inv X pins σ' H' s' ∧ tn i s'.heap ∧ (∀ b ∈ fp, H' b = none) ∧ W i n σ' H') ?_ m0 ⟨0, σ, H2, I2, st2, fun b hb => (f2 b hb).1, w0⟩
  rintro n s3 ⟨i, σ3, H3, I3, st3, fr3, w3⟩
  rcases turn i n σ3 H3 w3 with ⟨stop, qn⟩ | ⟨go, N, hN, step⟩
  · refine wpAny_passesOwn hp (thn (T.done X rfl rfl rfl hc i pins s3 σ3 H3 X.xe I3 (stat fr3) st3 stop) fun r s4 ⟨hr, I4⟩ => ?_)
    subst hr
    exact wpAny_execs_nil ⟨σ3, H3, I4, qn⟩
  · refine wpAny_passesOwn hp (thn (T.item X rfl rfl rfl hc i pins s3 σ3 H3 X.xe I3 (stat fr3) st3 go) fun r s4 ⟨u, hr, h4⟩ => ?_)
    subst hr
    refine wpAny_passesOwn hp (thn h4 fun _ s5 ⟨x, H5, I5, r5, y5, st5, fr5⟩ => ?_)
    have I5' := I5.pinned (stat fr5) (T.obj _ _ st5)
    refine wpAny_passesOwn hp (thn (hg _ s5 σ3 H5 x u _ I5' r5 (step x H5 y5)) fun _ s6 ⟨σ6, H6, I6, q6⟩ => ?_)
    refine wpAny_passesOwn hp (thn (hb _ s6 σ6 H6 _ I6 q6) fun f s7 q7 => ?_)
    have again : ∀ {σ7 : St} {H7 : Hp}, Inv X (pins ++ pinsAt fp s5.heap) σ7 H7 s7 → N σ7 H7 → ∃ m, m < n ∧ ∃ i σ' H', Inv X pins σ' H' s7 ∧ tn i s7.heap ∧ (∀ b ∈ fp, H' b = none) ∧ W i m σ' H' := fun {σ7 H7} I7 n7 => by
      obtain ⟨m', hm, w7⟩ := hN σ7 H7 n7
      refine ⟨m', hm, i + 1, σ7, H7, I7.unpinned, T.keep _ _ _ st5 fun b hb o e => (I7.pin (b, o) (List.mem_append_right _ (List.mem_append_right _ (mem_pinsAt hb e)))).1, fun b hb => ?_, w7⟩
      obtain ⟨o, e, d⟩ := T.obj _ _ st5 b hb
      exact (I7.pin (b, o) (List.mem_append_right _ (List.mem_append_right _ (mem_pinsAt hb e)))).2.1
    cases f with
    | next => obtain ⟨σ7, H7, I7, n7⟩ := q7; exact again I7 n7
    | cont => obtain ⟨σ7, H7, I7, n7⟩ := q7; exact again I7 n7
    | brk => obtain ⟨σ7, H7, I7, q7⟩ := q7; exact ⟨σ7, H7, I7.unpinned, q7⟩
    | ret v => obtain ⟨x7, σ7, H7, I7, r7, q7⟩ := q7; exact ⟨x7, σ7, H7, I7.unpinned, r7, q7⟩
end

theorem for_range {lo : Int} {n : Nat} {g : TG} {tb : TS} {D : Ends} {σ : St} {H : Hp} (Pv : Nat → St → Hp → Prop) (h0 : Pv 0 σ H)
    (hs : ∀ i σ H, i < n → Pv i σ H → g (.int (lo + i)) σ H fun σ2 H2 => tb { D with nx := Pv (i + 1), ct := Pv (i + 1), bk := D.nx } σ2 H2) (hd : ∀ σ H, Pv n σ H → D.nx σ H) :
    ∃ W : Nat → Nat → St → Hp → Prop, (∃ m, W 0 m σ H) ∧ ∀ i m σ H, W i m σ H →
      ((Itr lo n).stop i H ∧ D.nx σ H) ∨ ((Itr lo n).go i H ∧ ∃ N : St → Hp → Prop, (∀ σ' H', N σ' H' → ∃ m', m' < m ∧ W (i + 1) m' σ' H') ∧ ∀ x H', (Itr lo n).yld i H x H' → g x σ H' fun σ2 H2 => tb { D with nx := N, ct := N, bk := D.nx } σ2 H2) := by
  refine ⟨fun i m σ H => m = n - i ∧ i ≤ n ∧ Pv i σ H, ⟨n, by simp, Nat.zero_le _, h0⟩, ?_⟩
  rintro i m σ H ⟨rfl, hi, p⟩
  by_cases hlt : i < n
  · refine .inr ⟨hlt, Pv (i + 1), fun σ' H' p' => ⟨n - (i + 1), by omega, rfl, hlt, p'⟩, fun x H' y => ?_⟩
    obtain ⟨e, y⟩ := y
    subst e y
    exact hs i σ _ hlt p
  · have e : i = n := by omega
    subst e
    exact .inl ⟨Nat.le_refl _, hd σ H p⟩
theorem while_by {c : TT} {tb : TS} {D : Ends} {σ : St} {H : Hp} (Pv : St → Hp → Prop) (μ : St → Hp → Nat) (h0 : Pv σ H)
    (hs : ∀ σ H, Pv σ H → c σ H fun b H1 => if b = true then tb { D with nx := fun σ' H' => Pv σ' H' ∧ μ σ' H' < μ σ H, ct := fun σ' H' => Pv σ' H' ∧ μ σ' H' < μ σ H, bk := D.nx } σ H1 else D.nx σ H1)
    (mono : ∀ σ H Q Q', (∀ b H1, Q b H1 → Q' b H1) → c σ H Q → c σ H Q') : tWhile c tb D σ H := by
  refine ⟨fun m σ H => m = μ σ H ∧ Pv σ H, ⟨_, rfl, h0⟩, ?_⟩
  rintro m σ H ⟨rfl, p⟩
  refine mono σ H _ _ (fun b H1 q => ?_) (hs σ H p)
  cases b with
  | true => exact ⟨_, fun σ' H' ⟨p', l⟩ => ⟨_, l, rfl, p'⟩, q⟩
  | false => exact q
end L2

namespace L2
open PySem PySem.Spec PyProof.Rows

abbrev R2 := V → V → Hp → VK → Prop
def OpR (X : Cx) (f : Value → Value → Sem Value) (r : R2) : Prop :=
  ∀ (pins : List (Addr × Obj)) (s : Shared) (σ : St) (H : Hp) (x y : V) (v u : Value) (Q : VK), Inv X pins σ H s → RelV x v → RelV y u → r x y H Q →
    wpAny (model X.prog X.w) X.A (f v u) (EP X pins σ Q) X.xe s
def UnR (X : Cx) (f : Value → Sem Value) (r : V → Hp → VK → Prop) : Prop :=
  ∀ (pins : List (Addr × Obj)) (s : Shared) (σ : St) (H : Hp) (x : V) (v : Value) (Q : VK), Inv X pins σ H s → RelV x v → r x H Q →
    wpAny (model X.prog X.w) X.A (f v) (EP X pins σ Q) X.xe s
def CallR (X : Cx) (f : Value) (r : List V → Hp → VK → Prop) : Prop :=
  ∀ (pins : List (Addr × Obj)) (s : Shared) (σ : St) (H : Hp) (xs : List V) (us : List Value) (Q : VK), Inv X pins σ H s → Vals xs us → r xs H Q →
    wpAny (model X.prog X.w) X.A (call f us) (EP X pins σ Q) X.xe s
def tOp (r : R2) (ta tb : TE) : TE := fun σ H Q => ta σ H fun x H1 => tb σ H1 fun y H2 => r x y H2 Q
def tUn (r : V → Hp → VK → Prop) (ta : TE) : TE := fun σ H Q => ta σ H fun x H1 => r x H1 Q
def rI (C : Int → Int → Prop) (g : Int → Int → V) : R2 := fun x y H Q => ∃ i j, x = .int i ∧ y = .int j ∧ C i j ∧ Q (g i j) H
def rI0 (g : Int → Int → V) : R2 := fun x y H Q => ∃ i j, x = .int i ∧ y = .int j ∧ Q (g i j) H
def rU (g : Int → V) : V → Hp → VK → Prop := fun x H Q => ∃ i, x = .int i ∧ Q (g i) H

section
variable {X : Cx} {a b c : Expr} {ta tb tc : TE} {pos : Pos}

theorem binT (ha : PE X a ta) (hb : PE X b tb) {pins : List (Addr × Obj)} {s : Shared} {σ : St} {H : Hp} {R : V → V → Hp → Prop} (I : Inv X pins σ H s)
    (h : ta σ H fun x H1 => tb σ H1 fun y H2 => R x y H2) {Q : Value → Shared → Prop} {f : Value → Value → Sem Value}
    (hf : ∀ v u s2 x y H2, Inv X pins σ H2 s2 → RelV x v → RelV y u → R x y H2 → wpAny (model X.prog X.w) X.A (f v u) Q X.xe s2) :
    wpAny (model X.prog X.w) X.A (eval a X.env) (fun v s₁ => wpAny (model X.prog X.w) X.A (eval b X.env) (fun u s₂ => wpAny (model X.prog X.w) X.A (f v u) Q X.xe s₂) X.xe s₁) X.xe s := by
  refine thn (ha pins s σ H _ I h) fun v s1 ⟨x, H1, I1, r1, q1⟩ => ?_
  refine thn (hb pins s1 σ H1 _ I1 q1) fun u s2 ⟨y, H2, I2, r2, q2⟩ => ?_
  exact hf v u s2 x y H2 I2 r1 r2 q2

theorem pe_op {op : Operator} {r : R2} (ho : OpR X (binaryOp op) r) (ha : PE X a ta) (hb : PE X b tb) : PE X (.BinOp a op b pos) (tOp r ta tb) := by
  intro pins s σ H Q I h
  exact wpAny_BinOp (binT ha hb I h fun v u s2 x y H2 I2 rx ry q => ho pins s2 σ H2 x y v u Q I2 rx ry q)
theorem pe_un {op : UnaryOp} {r : V → Hp → VK → Prop} (ho : UnR X (unaryOp op) r) (ha : PE X a ta) : PE X (.UnaryOp op a pos) (tUn r ta) := by
  intro pins s σ H Q I h
  exact UnaryOp_ (thn (ha pins s σ H _ I h) fun v s1 ⟨x, H1, I1, r1, q1⟩ => ho pins s1 σ H1 x v Q I1 r1 q1)
theorem opI {f : Value → Value → Sem Value} {C : Int → Int → Prop} {g : Int → Int → Int}
    (rule : ∀ (i j : Int) (t u : Tok) (s : Shared) (Q : Value → Shared → Prop) (E : Value → Shared → Prop), C i j → Q (.int (g i j) s.toks) { s with toks := s.toks + 1 } → wpAny (model X.prog X.w) X.A (f (.int i t) (.int j u)) Q E s) :
    OpR X f (rI C fun i j => .int (g i j)) := by
  intro pins s σ H x y v u Q I rx ry h
  obtain ⟨i, j, rfl, rfl, hc, q⟩ := h
  obtain ⟨t, rfl⟩ := rx
  obtain ⟨t', rfl⟩ := ry
  exact rule i j t t' s _ _ hc ⟨.int (g i j), H, I.tok _, ⟨_, rfl⟩, q⟩
theorem opI0 {f : Value → Value → Sem Value} {g : Int → Int → Int}
    (rule : ∀ (i j : Int) (t u : Tok) (s : Shared) (Q : Value → Shared → Prop) (E : Value → Shared → Prop), Q (.int (g i j) s.toks) { s with toks := s.toks + 1 } → wpAny (model X.prog X.w) X.A (f (.int i t) (.int j u)) Q E s) :
    OpR X f (rI0 fun i j => .int (g i j)) := by
  intro pins s σ H x y v u Q I rx ry h
  obtain ⟨i, j, rfl, rfl, q⟩ := h
  obtain ⟨t, rfl⟩ := rx
  obtain ⟨t', rfl⟩ := ry
  exact rule i j t t' s _ _ ⟨.int (g i j), H, I.tok _, ⟨_, rfl⟩, q⟩
theorem opB0 {f : Value → Value → Sem Value} {g : Int → Int → Bool}
    (rule : ∀ (i j : Int) (t u : Tok) (s : Shared) (Q : Value → Shared → Prop) (E : Value → Shared → Prop), Q (.bool (g i j)) s → wpAny (model X.prog X.w) X.A (f (.int i t) (.int j u)) Q E s) :
    OpR X f (rI0 fun i j => .bl (g i j)) := by
  intro pins s σ H x y v u Q I rx ry h
  obtain ⟨i, j, rfl, rfl, q⟩ := h
  obtain ⟨t, rfl⟩ := rx
  obtain ⟨t', rfl⟩ := ry
  exact rule i j t t' s _ _ ⟨.bl (g i j), H, I, rfl, q⟩

def CPow (i j : Int) : Prop := 0 ≤ j ∧ j ≤ 1000000 ∧ i.natAbs < 2 ^ 64
def CMul (i j : Int) : Prop := (-(2 ^ 64) < i ∧ i < 2 ^ 64) ∨ (-(2 ^ 64) < j ∧ j < 2 ^ 64)
theorem CMul.ok {i j : Int} (h : CMul i j) : IntMulOk i j := by
  rcases h with ⟨h1, h2⟩ | ⟨h1, h2⟩
  · exact .of_left (intBits_le_64 h1 h2)
  · exact .of_right (intBits_le_64 h1 h2)
theorem two_pow_nn (k : Nat) : (0 : Int) ≤ 2 ^ k := by
  rw [two_pow_cast]
  exact Int.natCast_nonneg _

theorem op_add : OpR X (binaryOp .Add) (rI0 fun i j => .int (i + j)) := opI0 fun _ _ _ _ _ _ _ q => add_int q
theorem op_sub : OpR X (binaryOp .Sub) (rI0 fun i j => .int (i - j)) := opI0 fun _ _ _ _ _ _ _ q => sub_int q
theorem op_mod : OpR X (binaryOp .Mod) (rI (fun _ j => 0 < j) fun i j => .int (i % j)) := opI fun i j _ _ _ _ _ hc q => by
  have h1 : (0 : Int) < j := hc
  exact mod_int' (by omega) (by rw [Int.fmod_eq_emod_of_nonneg i (by omega)]; exact q)
theorem op_pow : OpR X (binaryOp .Pow) (rI CPow fun i j => .int (i ^ j.toNat)) := opI fun _ _ _ _ _ _ _ hc q => pow_int_small hc.1 hc.2.1 hc.2.2 q
theorem op_shl : OpR X (binaryOp .LShift) (rI CPow fun i j => .int (i * 2 ^ j.toNat)) := opI fun _ _ _ _ _ _ _ hc q => lshift_int_small hc.1 hc.2.1 hc.2.2 q
theorem op_shr : OpR X (binaryOp .RShift) (rI (fun _ j => 0 ≤ j) fun i j => .int (i / 2 ^ j.toNat)) := opI fun i j _ _ _ _ _ hc q =>
  rshift_int hc (by rw [Int.fdiv_eq_ediv_of_nonneg i (two_pow_nn _)]; exact q)
theorem op_and : OpR X (binaryOp .BitAnd) (rI0 fun i j => .int (Builtin.bitAnd i j)) := opI0 fun _ _ _ _ _ _ _ q => and_int q
theorem op_xor : OpR X (binaryOp .BitXor) (rI0 fun i j => .int (Builtin.bitXor i j)) := opI0 fun _ _ _ _ _ _ _ q => xor_int q

theorem unI {f : Value → Sem Value} {g : Int → Int}
    (rule : ∀ (i : Int) (t : Tok) (s : Shared) (Q : Value → Shared → Prop) (E : Value → Shared → Prop), Q (.int (g i) s.toks) { s with toks := s.toks + 1 } → wpAny (model X.prog X.w) X.A (f (.int i t)) Q E s) :
    UnR X f (rU fun i => .int (g i)) := by
  intro pins s σ H x v Q I rx h
  obtain ⟨i, rfl, q⟩ := h
  obtain ⟨t, rfl⟩ := rx
  exact rule i t s _ _ ⟨.int (g i), H, I.tok _, ⟨_, rfl⟩, q⟩
theorem un_neg : UnR X (unaryOp .USub) (rU fun i => .int (-i)) := unI fun _ _ _ _ _ q => neg_int q
end

def scal : V → V → Bool
  | .non, .non => true | .non, .int _ => true | .int _, .non => true | .non, .bl _ => true | .bl _, .non => true | .non, .str _ => true | .str _, .non => true
  | .int _, .int _ => true | .bl _, .bl _ => true | .str _, .str _ => true | .byt _, .byt _ => true
  | .int _, .str _ => true | .str _, .int _ => true | .bl _, .str _ => true | .str _, .bl _ => true
  | _, _ => false
def rEq : R2 := fun x y H Q => scal x y = true ∧ Q (.bl (decide (x = y))) H
def rNe : R2 := fun x y H Q => scal x y = true ∧ Q (.bl (!decide (x = y))) H

theorem dec_int {i j : Int} : decide (V.int i = V.int j) = (i == j) := by
  rw [Bool.eq_iff_iff]
  simp
theorem dec_bl {i j : Bool} : decide (V.bl i = V.bl j) = (i == j) := by
  rw [Bool.eq_iff_iff]
  simp
theorem dec_str {i j : Str} : decide (V.str i = V.str j) = (i == j) := by
  rw [Bool.eq_iff_iff]
  simp
theorem dec_byt {i j : Array UInt8} : decide (V.byt i = V.byt j) = (i.toList == j.toList) := by
  rw [Bool.eq_iff_iff]
  cases i
  cases j
  simp

section
variable {X : Cx} {a b c : Expr} {ta tb tc : TE} {pos : Pos}
theorem fin_bl {pins : List (Addr × Obj)} {σ : St} {H : Hp} {s : Shared} {Q : VK} {k k' : Bool} (I : Inv X pins σ H s) (q : Q (.bl k) H) (e : k = k') : EP X pins σ Q (.bool k') s := by
  subst e
  exact ⟨.bl k, H, I, rfl, q⟩
theorem op_eq : OpR X (compareOp .Eq) rEq := by
  intro pins s σ H x y v u Q I rx ry h
  obtain ⟨hs, q⟩ := h
  cases x with
  | non =>
    cases rx
    cases y with
    | non => cases ry; exact PySem.EqNone.eq_none_none (fin_bl I q (by simp))
    | bl j => cases ry; exact PySem.EqNone.eq_none_bool (fin_bl I q (by simp))
    | int j => obtain ⟨t', rfl⟩ := ry; exact PySem.EqNone.eq_none_int (fin_bl I q (by simp))
    | str j => obtain ⟨t', rfl⟩ := ry; exact PySem.EqNone.eq_none_str (fin_bl I q (by simp))
    | _ => exact absurd (show false = true from hs) Bool.false_ne_true
  | bl i =>
    cases rx
    cases y with
    | non => cases ry; exact PySem.EqNone.eq_bool_none (fin_bl I q (by simp))
    | bl j => cases ry; exact eq_bool (fin_bl I q dec_bl)
    | str j => obtain ⟨t', rfl⟩ := ry; exact PySem.EqMixed.eq_bool_str (fin_bl I q (by simp))
    | _ => exact absurd (show false = true from hs) Bool.false_ne_true
  | int i =>
    obtain ⟨t, rfl⟩ := rx
    cases y with
    | non => cases ry; exact PySem.EqNone.eq_int_none (fin_bl I q (by simp))
    | int j => obtain ⟨t', rfl⟩ := ry; exact eq_int (fin_bl I q dec_int)
    | str j => obtain ⟨t', rfl⟩ := ry; exact PySem.EqMixed.eq_int_str (fin_bl I q (by simp))
    | _ => exact absurd (show false = true from hs) Bool.false_ne_true
  | str i =>
    obtain ⟨t, rfl⟩ := rx
    cases y with
    | non => cases ry; exact PySem.EqNone.eq_str_none (fin_bl I q (by simp))
    | bl j => cases ry; exact PySem.EqMixed.eq_str_bool (fin_bl I q (by simp))
    | int j => obtain ⟨t', rfl⟩ := ry; exact PySem.EqMixed.eq_str_int (fin_bl I q (by simp))
    | str j => obtain ⟨t', rfl⟩ := ry; exact eq_str (fin_bl I q dec_str)
    | _ => exact absurd (show false = true from hs) Bool.false_ne_true
  | byt i =>
    obtain ⟨t, rfl⟩ := rx
    cases y with
    | byt j => obtain ⟨t', rfl⟩ := ry; exact PySem.W.eq_bytes (fin_bl I q dec_byt)
    | _ => exact absurd (show false = true from hs) Bool.false_ne_true
  | _ => cases y <;> exact absurd (show false = true from hs) Bool.false_ne_true
theorem op_ne : OpR X (compareOp .NotEq) rNe := by
  intro pins s σ H x y v u Q I rx ry h
  obtain ⟨hs, q⟩ := h
  cases x with
  | non =>
    cases rx
    cases y with
    | non => cases ry; exact PySem.EqNone.ne_none_none (fin_bl I q (by simp))
    | bl j => cases ry; exact PySem.EqNone.ne_none_bool (fin_bl I q (by simp))
    | int j => obtain ⟨t', rfl⟩ := ry; exact PySem.EqNone.ne_none_int (fin_bl I q (by simp))
    | str j => obtain ⟨t', rfl⟩ := ry; exact PySem.EqNone.ne_none_str (fin_bl I q (by simp))
    | _ => exact absurd (show false = true from hs) Bool.false_ne_true
  | bl i =>
    cases rx
    cases y with
    | non => cases ry; exact PySem.EqNone.ne_bool_none (fin_bl I q (by simp))
    | bl j => cases ry; exact ne_bool (fin_bl I q (congrArg not dec_bl))
    | str j => obtain ⟨t', rfl⟩ := ry; exact PySem.EqMixed.ne_bool_str (fin_bl I q (by simp))
    | _ => exact absurd (show false = true from hs) Bool.false_ne_true
  | int i =>
    obtain ⟨t, rfl⟩ := rx
    cases y with
    | non => cases ry; exact PySem.EqNone.ne_int_none (fin_bl I q (by simp))
    | int j => obtain ⟨t', rfl⟩ := ry; exact ne_int (fin_bl I q (congrArg not dec_int))
    | str j => obtain ⟨t', rfl⟩ := ry; exact PySem.EqMixed.ne_int_str (fin_bl I q (by simp))
    | _ => exact absurd (show false = true from hs) Bool.false_ne_true
  | str i =>
    obtain ⟨t, rfl⟩ := rx
    cases y with
    | non => cases ry; exact PySem.EqNone.ne_str_none (fin_bl I q (by simp))
    | bl j => cases ry; exact PySem.EqMixed.ne_str_bool (fin_bl I q (by simp))
    | int j => obtain ⟨t', rfl⟩ := ry; exact PySem.EqMixed.ne_str_int (fin_bl I q (by simp))
    | str j => obtain ⟨t', rfl⟩ := ry; exact ne_str (fin_bl I q (congrArg not dec_str))
    | _ => exact absurd (show false = true from hs) Bool.false_ne_true
  | byt i =>
    obtain ⟨t, rfl⟩ := rx
    cases y with
    | byt j => obtain ⟨t', rfl⟩ := ry; exact PySem.W.ne_bytes (fin_bl I q (congrArg not dec_byt))
    | _ => exact absurd (show false = true from hs) Bool.false_ne_true
  | _ => cases y <;> exact absurd (show false = true from hs) Bool.false_ne_true

theorem op_lt : OpR X (compareOp .Lt) (rI0 fun i j => .bl (decide (i < j))) := opB0 fun _ _ _ _ _ _ _ q => lt_int q
theorem op_gt : OpR X (compareOp .Gt) (rI0 fun i j => .bl (decide (j < i))) := opB0 fun _ _ _ _ _ _ _ q => gt_int q
theorem OpR.or {f : Value → Value → Sem Value} {r r' : R2} (h : OpR X f r) (h' : OpR X f r') : OpR X f (fun x y H Q => r x y H Q ∨ r' x y H Q) := by
  intro pins s σ H x y v u Q I rx ry q
  rcases q with q | q
  · exact h pins s σ H x y v u Q I rx ry q
  · exact h' pins s σ H x y v u Q I rx ry q

theorem nomark (b : Expr) {op : CmpOp} (h : op ≠ .In := by decide) (h2 : op ≠ .NotIn := by decide) : behindInMarks op b = false := by
  have e1 : (op == CmpOp.In) = false := by cases op <;> first | rfl | exact absurd rfl h
  have e2 : (op == CmpOp.NotIn) = false := by cases op <;> first | rfl | exact absurd rfl h2
  cases b <;> simp [behindInMarks, e1, e2]
theorem pe_cmpR {op : CmpOp} {r : R2} (ho : OpR X (compareOp op) r) (ha : PE X a ta) (hb : PE X b tb) (hm : behindInMarks op b = false) : PE X (.Compare a [op] [b] pos) (tOp r ta tb) := by
  intro pins s σ H Q I h
  exact wpAny_Compare1 (binT ha hb I h fun v u s2 x y H2 I2 rx ry q => ho pins s2 σ H2 x y v u Q I2 rx ry q) hm
def tTest (t : TE) : TT := fun σ H Q => t σ H fun x H' => ∃ k, x = .bl k ∧ Q k H'
theorem pt_cmpR {op : CmpOp} {r : R2} (ho : OpR X (compareOp op) r) (ha : PE X a ta) (hb : PE X b tb) (hm : behindInMarks op b = false) : PT X (.Compare a [op] [b] pos) (tTest (tOp r ta tb)) := by
  intro pins s σ H Q I h
  refine wpAny_isTrue_Compare1 (thn (ha pins s σ H _ I h) fun v s1 ⟨x, H1, I1, r1, q1⟩ => thn (hb pins s1 σ H1 _ I1 q1) fun u s2 ⟨y, H2, I2, r2, q2⟩ =>
    thn (ho pins s2 σ H2 x y v u _ I2 r1 r2 q2) fun c s3 ⟨z, H3, I3, r3, k, e, q3⟩ => ?_) hm
  subst e
  cases r3
  exact wpAny_truthy_bool ⟨H3, I3, q3⟩
theorem line63 : (sizeLine : Nat) < 2 ^ 63 := by rw [sizeLine_eq]; decide
theorem vals1 {x : V} {us : List Value} (r : Vals [x] us) : ∃ u, us = [u] ∧ RelV x u := by
  cases r with
  | cons r1 r2 => cases r2; exact ⟨_, rfl, r1⟩
theorem vals2 {x y : V} {us : List Value} (r : Vals [x, y] us) : ∃ u w', us = [u, w'] ∧ RelV x u ∧ RelV y w' := by
  cases r with
  | cons r1 r2 =>
    cases r2 with
    | cons r3 r4 => cases r4; exact ⟨_, _, rfl, r1, r3⟩
theorem call_abs : CallR X (.builtin "abs") (fun xs H Q => ∃ i, xs = [.int i] ∧ Q (.int (if i < 0 then -i else i)) H) := by
  intro pins s σ H xs us Q I r h
  obtain ⟨i, rfl, q⟩ := h
  obtain ⟨u, rfl, t, rfl⟩ := vals1 r
  exact call_abs_int fun u tk => ⟨.int (if i < 0 then -i else i), H, I.tok _, ⟨_, rfl⟩, q⟩
theorem call_max2 (hc : X.calm = true) : CallR X (.builtin "max") (fun xs H Q => ∃ i j, xs = [.int i, .int j] ∧ Q (.int (if j > i then j else i)) H) := by
  intro pins s σ H xs us Q I r h
  obtain ⟨i, j, rfl, q⟩ := h
  obtain ⟨u, w', rfl, ⟨t, rfl⟩, ⟨t', rfl⟩⟩ := vals2 r
  refine max_two_ints (I.ok.hd hc) fun h' tk k => ⟨_, H, I.kept k, ?_, q⟩
  by_cases hj : j > i
  · rw [if_pos hj, if_pos hj]; exact ⟨_, rfl⟩
  · rw [if_neg hj, if_neg hj]; exact ⟨_, rfl⟩
theorem call_min2 (hc : X.calm = true) : CallR X (.builtin "min") (fun xs H Q => ∃ i j, xs = [.int i, .int j] ∧ Q (.int (if j < i then j else i)) H) := by
  intro pins s σ H xs us Q I r h
  obtain ⟨i, j, rfl, q⟩ := h
  obtain ⟨u, w', rfl, ⟨t, rfl⟩, ⟨t', rfl⟩⟩ := vals2 r
  refine min_two_ints (I.ok.hd hc) fun h' tk k => ⟨_, H, I.kept k, ?_, q⟩
  by_cases hj : j < i
  · rw [if_pos hj, if_pos hj]; exact ⟨_, rfl⟩
  · rw [if_neg hj, if_neg hj]; exact ⟨_, rfl⟩
end
end L2

namespace L2
open PySem PySem.Spec PyProof.Rows

structure ObjM (h : Heap) (x dx C : Addr) (mA : Str → Option Value) : Prop where
  obj : h.get? x = some (PySem.W.instObj C dx)
  ns : h.Ns1 dx mA
  ne : dx ≠ x

theorem lookIn_ns {h : Heap} {dx : Addr} {mA : Str → Option Value} (n : h.Ns1 dx mA) : ∃ od, h.get? dx = some od ∧ ∀ name, PySem.W.lookIn name od = some (mA name) := by
  obtain ⟨o, es, ep, ho, hd, hk, _, hm⟩ := n
  refine ⟨o, ho, fun name => ?_⟩
  have e := hm name
  unfold nsFind findBy at e
  rw [← Array.find?_toList] at e
  unfold PySem.W.lookIn
  rw [hd]
  dsimp only
  split
  · rename_i y q
    rw [q] at e
    exact congrArg some e
  · rename_i q
    rw [q] at e
    have a : es.toList.any (·.refKey) = false := by
      rw [List.any_eq_false]
      intro y hy
      obtain ⟨z, t, hkey⟩ := hk y (Array.mem_toList_iff.mp hy)
      simp [DictEntry.refKey, hkey]
    have a' : ¬ es.toList.any (·.refKey) = true := by rw [a]; exact Bool.false_ne_true
    rw [if_neg a']
    exact congrArg some e

theorem ObjM.look {h : Heap} {x dx C : Addr} {mA : Str → Option Value} (I : ObjM h x dx C mA) : ∃ od, PySem.W.InstAt h x (PySem.W.instObj C dx) C (some od) ∧ ∀ name, PySem.W.lookIn name od = some (mA name) :=
  let ⟨od, ho, hl⟩ := lookIn_ns I.ns
  ⟨od, ⟨I.obj, rfl, rfl, ho⟩, hl⟩

section
variable {prog : Program} {w : World} {A : Around} {E : Value → Shared → Prop} {s : Shared} {K : PySem.W.Frag} {x dx C f : Addr} {mA : Str → Option Value} {name : Str} {v : Value}

theorem get_map {expr : Bool} {Q : Value → Shared → Prop} (X : K.In s.heap) (I : ObjM s.heap x dx C mA) (hg : PySem.W.plainGet K C name = true) (hh : PySem.W.hasDictIn K C = true)
    (ha : PySem.W.findIn K (.ref C) name = some none) (hv : mA name = some v) (hv' : PySem.W.handedIn v = true) (h : Q v { s with toks := s.toks + 1 }) :
    wpAny (model prog w) A (getAttr (.ref x) name expr) Q E s := by
  obtain ⟨od, J, hl⟩ := I.look
  exact PySem.W.get_value X J (PySem.W.plainGet_of hg).1 (PySem.W.findObj_own hh ha rfl (by rw [hl, hv])) hv' h

theorem set_map {ns : List Str} {Q : Unit → Shared → Prop} (X : K.In s.heap) (I : ObjM s.heap x dx C mA)
    (hs : PySem.W.findIn K (.ref C) "__setattr__" = some (some (.builtin "object.__setattr__"))) (hp : PySem.W.plainOver K C = true) (ht : PySem.W.takerIn K C name = some none) (hh : PySem.W.hasDictIn K C = true)
    (hw : PySem.Within mA ns) (hsz : ns.length ≤ sizeLine)
    (h : ∀ h', ObjM h' x dx C (fun y => if y = name then some v else mA y) → Heap.SameBut dx s.heap h' → Q () { s with heap := h', toks := s.toks + 2 }) :
    wpAny (model prog w) A (setAttr (.ref x) name v) Q E s := by
  obtain ⟨od, J, hl⟩ := I.look
  refine PySem.W.set_plain X J hs (PySem.W.osa_open (s := { s with toks := s.toks + 1 }) (r := none) X J hp ht fun b => ?_)
  obtain ⟨cd, hc, hd'⟩ := PySem.W.any_some hh
  have hx : s.heap.get? x = some ⟨.ref C, some dx, .plain, #[]⟩ := I.obj
  refine wpAny_bind (wpAny_pure (wpAny_bind (wpAny_bind (wpAny_loadPart hx (wpAny_bind (PySem.W.Looks.here (s := { s with toks := s.toks + 1 }) (PySem.W.looks_clsIn X hc) ?_))))))
  rw [hd']
  refine wpAny_pure (a := some dx) (wpAny_bind (wpAny_pure (wpAny_bind ?_)))
  refine wpAny_nsSet1 (s := { s with toks := s.toks + 1 }) I.ns fun h' hn2 hs2 => ?_
  obtain ⟨oD, esD, epD, hoD, hdD, hcD⟩ := hn2.count (PySem.Within.cons name v hw)
  refine wpAny_bind (wpAny_lookBehind hoD (by rw [hdD]; exact pastItsLine_dict (Nat.le_trans hcD (by rw [List.length_cons]; omega))) ?_)
  exact wpAny_pure (h _ ⟨(hs2.2 _ (Ne.symm I.ne)).trans I.obj, hn2, I.ne⟩ hs2)

theorem make_map {R : Result → Shared → Prop} {vs : List Value} {kw : List (Str × Value)} (X : K.In s.heap) (hm : PySem.W.makesIn K C = true)
    (hi : PySem.W.findIn K (.ref C) "__init__" = some (some (.ref f))) (hf : PySem.W.typeIn K (.ref f) = some (.type "function"))
    (h : codeAny (model prog w) (A.under (.builtin "type.__call__" ⟨.ref C :: vs, kw⟩)) (.call (.ref f) ⟨.ref (s.heap.objs.size + 1) :: vs, kw⟩) (PySem.W.InitBack (s.heap.objs.size + 1) R)
      { s with heap := (s.heap.push PySem.W.emptyDict).push (PySem.W.instObj C s.heap.objs.size) }) :
    codeAny (model prog w) A (.call (.ref C) ⟨vs, kw⟩) R s := by
  obtain ⟨hh, g, d, t, os⟩ := s
  exact PySem.W.make_core (PySem.W.makes_of X hm) (PySem.W.looks_findIn X hi) (fun self => PySem.W.bind_fn X self hf) (.inl rfl) h
end

def putF (f : Str) (v : V) : List (Str × V) → List (Str × V)
  | [] => [(f, v)]
  | (g, x) :: r => if g = f then (g, v) :: r else (g, x) :: putF f v r
theorem lookup_putF (f g : Str) (v : V) : ∀ fs : List (Str × V), (putF f v fs).lookup g = if g = f then some v else fs.lookup g
  | [] => by
    show List.lookup g [(f, v)] = _
    by_cases h : g = f
    · have hb : (g == f) = true := beq_iff_eq.mpr h
      simp only [List.lookup, hb, if_pos h]
    · have hb : (g == f) = false := beq_eq_false_iff_ne.mpr h
      simp only [List.lookup, hb, if_neg h]
  | (k, x) :: r => by
    have ih := lookup_putF f g v r
    rw [show putF f v ((k, x) :: r) = (if k = f then (k, v) :: r else (k, x) :: putF f v r) from rfl]
    by_cases hk : k = f
    · rw [if_pos hk]
      by_cases h : g = k
      · have hb : (g == k) = true := beq_iff_eq.mpr h
        simp only [List.lookup, hb, if_pos (h.trans hk)]
      · have hb : (g == k) = false := beq_eq_false_iff_ne.mpr h
        simp only [List.lookup, hb, if_neg (fun e : g = f => h (e.trans hk.symm))]
    · rw [if_neg hk]
      by_cases h : g = k
      · have hb : (g == k) = true := beq_iff_eq.mpr h
        simp only [List.lookup, hb, if_neg (fun e : g = f => hk (h.symm.trans e))]
      · have hb : (g == k) = false := beq_eq_false_iff_ne.mpr h
        simp only [List.lookup, hb]
        exact ih
theorem keys_putF (f : Str) (v : V) : ∀ fs : List (Str × V), f ∈ (putF f v fs).map (·.1) ∧ ∀ g, g ∈ fs.map (·.1) → g ∈ (putF f v fs).map (·.1)
  | [] => ⟨by simp [putF], fun g h => by simp at h⟩
  | (k, x) :: r => by
    obtain ⟨i1, i2⟩ := keys_putF f v r
    rw [show putF f v ((k, x) :: r) = (if k = f then (k, v) :: r else (k, x) :: putF f v r) from rfl]
    by_cases hk : k = f
    · rw [if_pos hk]
      subst hk
      exact ⟨by simp, fun g h => by simpa using h⟩
    · rw [if_neg hk]
      refine ⟨?_, fun g h => ?_⟩
      · rw [List.map_cons]
        exact List.mem_cons_of_mem _ i1
      · rw [List.map_cons] at h ⊢
        rcases List.mem_cons.mp h with e | e
        · exact List.mem_cons.mpr (.inl e)
        · exact List.mem_cons_of_mem _ (i2 g e)
theorem length_putF (f : Str) (v : V) : ∀ fs : List (Str × V), (putF f v fs).length ≤ fs.length + 1
  | [] => by simp [putF]
  | (k, x) :: r => by
    have ih := length_putF f v r
    rw [show putF f v ((k, x) :: r) = (if k = f then (k, v) :: r else (k, x) :: putF f v r) from rfl]
    by_cases hk : k = f
    · rw [if_pos hk, List.length_cons, List.length_cons]; omega
    · rw [if_neg hk, List.length_cons, List.length_cons]; omega

theorem RelO.some_of {v : V} {o : Option Value} (r : RelO (some v) o) : ∃ u, o = some u ∧ RelV v u := by
  cases o with
  | none => exact (show False from r).elim
  | some u => exact ⟨u, rfl, r⟩
theorem handed_of {v : V} {u : Value} (r : RelV v u) : PySem.W.handedIn u = true := by
  cases v with
  | non => cases (show u = Value.none from r); rfl
  | bl b => cases (show u = Value.bool b from r); rfl
  | int i => obtain ⟨t, e⟩ := (show ∃ t, u = Value.int i t from r); cases e; rfl
  | str x => obtain ⟨t, e⟩ := (show ∃ t, u = Value.str x t from r); cases e; rfl
  | byt b => obtain ⟨t, e⟩ := (show ∃ t, u = Value.bytes b t from r); cases e; rfl
  | flt b => obtain ⟨t, e⟩ := (show ∃ t, u = Value.float b t from r); cases e; rfl
  | ref a => cases (show u = Value.ref a from r); rfl
  | ty n => cases (show u = Value.type n from r); rfl

section
variable {P : Program} {w : World} {H H' : Hp} {h h' : Heap} {a C dx : Addr} {fs fs' : List (Str × V)}
theorem ins_get (hok : HOk P w H h) (e : H a = some (.ins C dx fs)) : ∃ mA, ObjM h a dx C mA ∧ (∀ f, RelO (fs.lookup f) (mA f)) ∧ PySem.Within mA (fs.map (·.1)) ∧ fs.length ≤ 1000 ∧ H dx = some (.own a) := by
  obtain ⟨d, z, ne, ob, mA, n, r, q⟩ := (show ObjOk P w H h a (.ins C dx fs) from hok a _ e)
  exact ⟨mA, ⟨ob, n, ne⟩, r, q, z, d⟩
end

structure Cls (K : PySem.W.Frag) (C : Addr) : Prop where
  pg : PySem.W.plainGet K C Str.empty = true
  hd : PySem.W.hasDictIn K C = true
  po : PySem.W.plainOver K C = true
  sa : PySem.W.findIn K (.ref C) "__setattr__" = some (some (.builtin "object.__setattr__"))
theorem Cls.get {K : PySem.W.Frag} {C : Addr} (c : Cls K C) (f : Str) : PySem.W.plainGet K C f = true := c.pg
def NoAttr (K : PySem.W.Frag) (C : Addr) (f : Str) : Prop := PySem.W.findIn K (.ref C) f = some none
theorem NoAttr.taker {K : PySem.W.Frag} {C : Addr} {f : Str} (n : NoAttr K C f) : PySem.W.takerIn K C f = some none := by
  unfold PySem.W.takerIn
  rw [show PySem.W.findIn K (.ref C) f = some none from n]
  rfl
section
variable {X : Cx} {pins : List (Addr × Obj)} {σ : St} {H : Hp} {s : Shared} {a C dx : Addr} {fs : List (Str × V)} {f : Str} {v : V} {A : Around} {E : Value → Shared → Prop}

theorem getattr_ok {b : Bool} {Q : Value → Shared → Prop} (I : Inv X pins σ H s) (e : H a = some (.ins C dx fs)) (c : Cls X.K C) (n : NoAttr X.K C f) (l : fs.lookup f = some v)
    (h : ∀ u s', Inv X pins σ H s' → RelV v u → Q u s') : wpAny (model X.prog X.w) A (getAttr (.ref a) f b) Q E s := by
  obtain ⟨mA, O, r, _, _, _⟩ := ins_get I.hok e
  obtain ⟨u, hu, ru⟩ := RelO.some_of (v := v) (o := mA f) (by rw [← l]; exact r f)
  exact get_map I.kIn O (c.get f) c.hd n hu (handed_of ru) (h u _ (I.tok _) ru)

theorem setattr_ok {y : V} {u : Value} {Q : Unit → Shared → Prop} (I : Inv X pins σ H s) (e : H a = some (.ins C dx fs)) (c : Cls X.K C) (n : NoAttr X.K C f) (hl : fs.length < 1000) (ry : RelV y u)
    (h : ∀ s', Inv X pins σ (upd H a (.ins C dx (putF f y fs))) s' → Q () s') : wpAny (model X.prog X.w) A (setAttr (.ref a) f u) Q E s := by
  obtain ⟨mA, O, r, wi, _, ho⟩ := ins_get I.hok e
  have hz : (fs.map (·.1)).length ≤ sizeLine := by rw [List.length_map, sizeLine_eq]; omega
  refine set_map I.kIn O c.sa c.po n.taker c.hd wi hz fun h' O' sb => h _ ?_
  have hd : ∃ o, h'.get? dx = some o := let ⟨o, _, _, e', _⟩ := O'.ns; ⟨o, e'⟩
  refine I.write (x := a) (e := dx) (by rw [e]; exact True.intro) (.inr ho) (fun b q hb z => (sb.2 b hb).trans z) hd ?_
  refine ⟨by rw [upd_ne O.ne]; exact ho, ?_, O.ne, O'.obj, _, O'.ns, fun g => ?_, fun g hg => ?_⟩
  · have := length_putF f y fs; omega
  · show RelO ((putF f y fs).lookup g) (if g = f then some u else mA g)
    rw [lookup_putF]
    by_cases q : g = f
    · rw [if_pos q, if_pos q]; exact ry
    · rw [if_neg q, if_neg q]; exact r g
  · by_cases q : g = f
    · rw [q]; exact (keys_putF f y fs).1
    · refine (keys_putF f y fs).2 g (wi g fun z => hg ?_)
      show (if g = f then some u else mA g) = none
      rw [if_neg q]; exact z

theorem Inv.made (I : Inv X pins σ H s) : Inv X pins σ (upd (upd H s.heap.objs.size (.own (s.heap.objs.size + 1))) (s.heap.objs.size + 1) (.ins C s.heap.objs.size []))
    { s with heap := (s.heap.push PySem.W.emptyDict).push (PySem.W.instObj C s.heap.objs.size) } := by
  have e1 : (s.heap.push PySem.W.emptyDict).get? s.heap.objs.size = some PySem.W.emptyDict := Heap.get?_push_size s.heap rfl
  have e2 : ((s.heap.push PySem.W.emptyDict).push (PySem.W.instObj C s.heap.objs.size)).get? (s.heap.objs.size + 1) = some (PySem.W.instObj C s.heap.objs.size) := by
    have := Heap.get?_push_size (s.heap.push PySem.W.emptyDict) (o := PySem.W.instObj C s.heap.objs.size) rfl
    rwa [Heap.size_push] at this
  have e3 : (s.heap.push PySem.W.emptyDict).Ns s.heap.objs.size (fun _ => none) := ⟨PySem.W.emptyDict, #[], _, e1, rfl, (fun e he => absurd he (by simp)), fun _ => rfl⟩
  have I1 := I.laid (a := s.heap.objs.size) (o := .own (s.heap.objs.size + 1)) (h' := s.heap.push PySem.W.emptyDict) (t' := s.toks) (fun b u q => Heap.get?_push_of_some _ q) (Nat.le_refl _) ⟨_, e1⟩
  refine I1.laid (a := s.heap.objs.size + 1) (o := .ins C s.heap.objs.size []) (t' := s.toks) (fun b u q => Heap.get?_push_of_some _ q) (Nat.le_of_eq (Heap.size_push _ _)) ?_
  have ne : s.heap.objs.size ≠ s.heap.objs.size + 1 := Nat.ne_of_lt (Nat.lt_succ_self _)
  refine ⟨by rw [upd_ne ne, upd_same], Nat.zero_le _, ne, e2, fun _ => none, (Heap.Ns1.of_empty e3).at fun o q => Heap.get?_push_of_some _ q, fun _ => True.intro, fun y hy => absurd rfl hy⟩

theorem attr_of {prog : Program} {w : World} {env : Env} {e : Expr} {f : Str} {pos : Pos} {s : Shared} {Q : Value → Shared → Prop} (hb : attributeBase e f env (eval e env) = eval e env)
    (h : wpAny (model prog w) A (eval e env) (fun o s₁ => wpAny (model prog w) A (getAttr o f true) Q E s₁) E s) : wpAny (model prog w) A (eval (.Attribute e f pos) env) Q E s :=
  Attribute_any_ h (by rw [arm_eval_Attribute, hb])
end

def sFld (K : PySem.W.Frag) (ta tv : TE) (f : Str) : TS := fun D σ H => tv σ H fun y H1 => ta σ H1 fun x H2 => ∃ a C dx fs, x = .ref a ∧ H2 a = some (.ins C dx fs) ∧ Cls K C ∧ NoAttr K C f ∧ fs.length < 1000 ∧
  D.nx σ (upd H2 a (.ins C dx (putF f y fs)))
section
variable {X : Cx} {o e value : Expr} {f : Str} {pos pos' tpos : Pos} {ta tv : TE}
theorem ps_fld (ha : PE X o ta) (hv : PE X value tv) (hs : swapsWith value (some (.Attribute o f pos')) pos.line X.env = pure false) : PS X (.Assign [.Attribute o f pos'] value pos) (sFld X.K ta tv f) := by
  intro pins s σ H D I h
  refine plainObj_wpAny_Assign_Attribute (thn (hv pins s σ H _ I h) fun u s1 ⟨y, H1, I1, ry, q⟩ => thn (ha pins s1 σ H1 _ I1 q) fun ov s2 ⟨x, H2, I2, rx, a, C, dx, fs, ex, ea, c, n, l, q2⟩ => ?_) hs
  subst ex
  obtain rfl : ov = Value.ref a := rx
  exact setattr_ok I2 ea c n l ry fun s3 I3 => ⟨σ, _, I3, q2⟩
end

section
variable {X : Cx} {pins : List (Addr × Obj)} {σ : St} {H : Hp} {s : Shared} {A : Around} {E : Value → Shared → Prop} {Q : Value → Shared → Prop} {c : Value} {b : Bool}
end
end L2

namespace L2
open PySem PySem.Spec PyProof.Rows

structure Room (k : Nat) (A : Around) : Prop where
  hd : A.handled = none
  dp : A.depth + 3 * k + 5 < recursionLimit
  un : A.units + 16 * k + 200 < cLine
theorem Room.mono {j k : Nat} {A : Around} (r : Room k A) (h : j ≤ k) : Room j A := ⟨r.hd, by have := r.dp; omega, by have := r.un; omega⟩
theorem Room.deeper {k : Nat} {A : Around} (r : Room (k + 1) A) (env : Env) : Room k (A.deeper env) :=
  ⟨r.hd, by have := r.dp; show A.depth + 1 + 3 * k + 5 < _; omega, by have := r.un; show A.units + 3 + 16 * k + 200 < _; omega⟩
theorem make_depth {A : Around} {C : Addr} {us : List Value} {kw : List (Str × Value)} : (A.under (.builtin "type.__call__" ⟨.ref C :: us, kw⟩)).depth = A.depth + 1 := by
  first | rfl | simp [Around.under, Code.weight, Code.isCreation, Code.isGuard, Code.isCaller, Code.frames, Code.isFrame, guardIds]
theorem make_units {A : Around} {C : Addr} {us : List Value} {kw : List (Str × Value)} : (A.under (.builtin "type.__call__" ⟨.ref C :: us, kw⟩)).units = A.units + 1 := by
  first | rfl | simp [Around.under, Code.cUnits, Code.frames, Code.isFrame]
theorem Room.make {k : Nat} {A : Around} (r : Room (k + 1) A) (C : Addr) (us : List Value) (kw : List (Str × Value)) : Room k (A.under (.builtin "type.__call__" ⟨.ref C :: us, kw⟩)) :=
  ⟨r.hd, by have := r.dp; rw [make_depth]; omega, by have := r.un; rw [make_units]; omega⟩
theorem Room.depth {k : Nat} {A : Around} (r : Room k A) : A.depth < recursionLimit := by have := r.dp; omega
theorem Room.units {k : Nat} {A : Around} (r : Room k A) : A.units + 64 < cLine := by have := r.un; omega
def tNil : TA := fun _ H Q => Q [] H
def tCons (ta : TE) (tr : TA) : TA := fun σ H Q => ta σ H fun x H1 => tr σ H1 fun xs H2 => Q (x :: xs) H2
section
variable {X : Cx} {e : Expr} {es : List Expr} {te : TE} {t : TA} {pos : Pos}
theorem pa_nil : PA X [] tNil := fun _ _ _ _ H Q I h => Calls.spliced_nil ⟨[], H, I, .nil, h⟩
theorem pa_cons (ha : PE X e te) (hr : PA X es t) (hs : starEach (e :: es) X.env = (false, eval e X.env) :: starEach es X.env := by rfl) : PA X (e :: es) (tCons te t) := by
  intro pos pins s σ H Q I h
  rw [hs]
  show wpAny _ _ (spliced ((false, eval e X.env) :: backTo pos (starEach es X.env))) _ _ s
  refine Calls.spliced_cons (thn (ha pins s σ H _ I h) fun u s1 ⟨x, H1, I1, r1, q1⟩ => ?_)
  exact thn (hr pos pins s1 σ H1 _ I1 q1) fun us s2 ⟨xs, H2, I2, r2, q2⟩ => ⟨x :: xs, H2, I2, .cons r1 r2, q2⟩

def tLst (t : TA) : TE := fun σ H Q => t σ H fun xs H1 => xs.length ≤ sizeLine ∧ ∀ p, H1 p = none → Q (.ref p) (upd H1 p (.lst xs))
theorem pe_lst (h : PA X es t) : PE X (.List es pos) (tLst t) := by
  intro pins s σ H Q I hq
  refine wpAny_List_spliced (thn (h pos pins s σ H _ I hq) fun us s1 ⟨xs, H1, I1, r, z, q⟩ => ⟨by rw [← r.length]; exact z, ?_⟩)
  have hf : H1 s1.heap.objs.size = none := I1.hok.fresh (Nat.le_refl _)
  refine ⟨.ref s1.heap.objs.size, upd H1 s1.heap.objs.size (.lst xs), I1.laid (t' := s1.toks) (fun b u e => Heap.get?_push_of_some _ e) (Nat.le_refl _) ?_, rfl, q _ hf⟩
  exact ⟨z, us, 0, r, Heap.get?_push_size _ rfl⟩
end

abbrev Sp := List V → Hp → VK → XK → Prop
abbrev CXT := List Env → Hp → Shared → XK → Value → Shared → Prop

structure Env0 (P : Program) (w : World) (K : PySem.W.Frag) (mg : Str → Option Value) (base : Heap) (A : Around) (outer : List Env) (s : Shared) (H : Hp) : Prop where
  frames : A.frames = some outer
  mod : Mod K mg base
  bs : ∀ b o, base.get? b = some o → s.heap.get? b = some o ∧ H b = none
  bsz : base.objs.size ≤ s.heap.objs.size
  funs : s.heap.FunFrames base outer
  frf : ∀ b ∈ frs outer, H b = none
  hok : HOk P w H s.heap
  bare : AllBare s.gens
def CE (outer : List Env) (P : Program) (w : World) (H : Hp) (s : Shared) (Q : VK) (u : Value) (s' : Shared) : Prop :=
  ∃ v H', s'.os = s.os ∧ AllBare s'.gens ∧ Un (frs outer) [] H H' s.heap s'.heap ∧ HOk P w H' s'.heap ∧ RelV v u ∧ Q v H'
def CR (CX : CXT) (outer : List Env) (P : Program) (w : World) (H : Hp) (s : Shared) (Q : VK) (E : XK) (r : Result) (s' : Shared) : Prop :=
  match r with
  | .ok (.ret u) => CE outer P w H s Q u s'
  | .ok _ => False
  | .error e => CX outer H s E e s'
structure FnOk (P : Program) (w : World) (K : PySem.W.Frag) (mg : Str → Option Value) (base : Heap) (CX : CXT) (k : Nat) (f : Addr) (fd : FuncData) (ps : List Str) (sp : Sp) : Prop where
  len : ∀ vs H Q E, sp vs H Q E → vs.length = ps.length
  run : ∀ (A : Around) (outer : List Env) (s : Shared) (H : Hp) (args : Args) (us : List Value) (vs : List V) (Q : VK) (E : XK), Room k A → Env0 P w K mg base A outer s H → BindsTo s fd args (ps.zip us) → Vals vs us → sp vs H Q E →
    codeAny (model P w) A (.call (.ref f) args) (CR CX outer P w H s Q E) s
theorem FnOk.mono {P : Program} {w : World} {K : PySem.W.Frag} {mg : Str → Option Value} {base : Heap} {CX : CXT} {j k : Nat} {f : Addr} {fd : FuncData} {ps : List Str} {sp : Sp} (F : FnOk P w K mg base CX j f fd ps sp) (h : j ≤ k) :
    FnOk P w K mg base CX k f fd ps sp := ⟨F.len, fun A outer s H args us vs Q E hr => F.run A outer s H args us vs Q E (hr.mono h)⟩
theorem Env0.make {P : Program} {w : World} {K : PySem.W.Frag} {mg : Str → Option Value} {base : Heap} {A : Around} {outer : List Env} {s : Shared} {H : Hp} (e : Env0 P w K mg base A outer s H) (C : Addr) (us : List Value) (kw : List (Str × Value)) :
    Env0 P w K mg base (A.under (.builtin "type.__call__" ⟨.ref C :: us, kw⟩)) outer s H := ⟨by first | exact e.frames | (simpa [Around.under, Code.envs, Code.isFrame, pushEnvs] using e.frames), e.mod, e.bs, e.bsz, e.funs, e.frf, e.hok, e.bare⟩
section
variable {X : Cx} {pins : List (Addr × Obj)} {σ : St} {H : Hp} {s s' : Shared}
theorem Inv.env0 (I : Inv X pins σ H s) : Env0 X.prog X.w X.K X.mg X.base X.A X.stack s H :=
  ⟨I.ok.frames, I.ok.mod, I.bs, Nat.le_trans I.ok.bsz I.sz, I.stack, I.stkFree, I.hok, I.bare⟩
theorem Inv.after {Q : VK} {u : Value} (I : Inv X pins σ H s) (h : CE X.stack X.prog X.w H s Q u s') : EP X pins σ Q u s' := by
  obtain ⟨v, H', os, bare, un, hok, r, q⟩ := h
  obtain ⟨hh, g, d, t, os'⟩ := s'
  obtain rfl : os' = s.os := os
  exact ⟨v, H', I.call (h' := hh) (g' := g) (d' := d) (t' := t) (ch := []) un hok bare (fun b z => absurd z (by simp)), r, q⟩
end

def tCall (sp : Sp) (dvs : List V) (E : XK) (t : TA) : TE := fun σ H Q => t σ H fun vs H1 => sp (vs ++ dvs) H1 Q E
def Binds (K : PySem.W.Frag) (fd : FuncData) (ps : List Str) (ds : List Value) : Prop :=
  ∀ (s : Shared) (us : List Value), K.In s.heap → (us ++ ds).length = ps.length → BindsTo s fd ⟨us, []⟩ (ps.zip (us ++ ds))
theorem Binds.all {K : PySem.W.Frag} {fd : FuncData} {ps : List Str} (h : ∀ us : List Value, us.length = ps.length → bindArgs fd ⟨us, []⟩ = pure (ps.zip us)) : Binds K fd ps [] := fun s us _ hl => by
  rw [List.append_nil] at hl ⊢
  exact .of_eq (h us hl)

def Passes (CX : CXT) (X : Cx) (E : XK) : Prop := ∀ (pins : List (Addr × Obj)) (σ : St) (H : Hp) (s : Shared) (e : Value) (s' : Shared), Inv X pins σ H s → CX X.stack H s E e s' → X.xe e s'

section
variable {X : Cx} {CX : CXT} {k : Nat} {f C : Addr} {fd : FuncData} {ps : List Str} {sp : Sp} {dvs : List V} {ds : List Value} {E : XK} {x m : Str} {p pos apos : Pos} {e o : Expr} {es : List Expr} {ta : TE} {t : TA}

theorem run_fn {pins : List (Addr × Obj)} {σ : St} {H : Hp} {s : Shared} {Q : VK} {us : List Value} {vs : List V} (F : FnOk X.prog X.w X.K X.mg X.base CX k f fd ps sp) (hr : Room k X.A) (hb : Binds X.K fd ps ds) (hd : Vals dvs ds) (hx : Passes CX X E)
    (I : Inv X pins σ H s) (r : Vals vs us) (h : sp (vs ++ dvs) H Q E) : wpAny (model X.prog X.w) X.A (call (.ref f) us) (EP X pins σ Q) X.xe s := by
  have r2 : Vals (vs ++ dvs) (us ++ ds) := r.append hd
  have hl : (us ++ ds).length = ps.length := by rw [← r2.length]; exact F.len _ _ _ _ h
  refine wpAny_call (codeAny_mono (F.run X.A X.stack s H ⟨us, []⟩ (us ++ ds) (vs ++ dvs) Q E hr I.env0 (hb s us I.kIn hl) r2 h) fun r s' hq => ?_)
  cases r with
  | error e => exact hx pins σ H s e s' I hq
  | ok fl =>
    cases fl with
    | ret u => exact I.after hq
    | next => exact False.elim hq
    | brk => exact False.elim hq
    | cont => exact False.elim hq

theorem pe_call (F : FnOk X.prog X.w X.K X.mg X.base CX k f fd ps sp) (hr : Room k X.A) (hg : Gl X x) (hm : X.mg x = some (.ref f)) (hk : PySem.W.keepIn X.K (.ref f) = true) (hb : Binds X.K fd ps ds) (hd : Vals dvs ds) (hx : Passes CX X E)
    (ha : PA X (e :: es) t) (hdb : (x == ("__debug__" : Str)) = false := by decide) (he : starEach (e :: es) X.env = (false, eval e X.env) :: starEach es X.env := by rfl) (hpl : (backTo pos (starEach es X.env)).any (·.1) = false := by rfl) :
    PE X (.Call (.Name x p) (e :: es) [] pos) (tCall sp dvs E t) := by
  intro pins s σ H Q I h
  refine wpAny_Call_Name_kw (ld_glob I hg hm ?_ hdb)
  refine PySem.W.callWith_K (h₀ := X.base) I.ok.mod.kin hk (thn (ha pos pins s σ H _ I h) fun us s1 ⟨vs, H1, I1, r, q⟩ => ⟨I1.kIn, ?_⟩) he hpl
  exact run_fn F hr hb hd hx I1 r q
theorem pe_call0 (F : FnOk X.prog X.w X.K X.mg X.base CX k f fd ps sp) (hr : Room k X.A) (hg : Gl X x) (hm : X.mg x = some (.ref f)) (hk : PySem.W.keepIn X.K (.ref f) = true) (hb : Binds X.K fd ps ds) (hd : Vals dvs ds) (hx : Passes CX X E)
    (hdb : (x == ("__debug__" : Str)) = false := by decide) : PE X (.Call (.Name x p) [] [] pos) (tCall sp dvs E tNil) := by
  intro pins s σ H Q I h
  refine wpAny_Call_Name_kw (ld_glob I hg hm ?_ hdb)
  exact PySem.W.callWith_K0 I.kIn hk (run_fn (us := []) F hr hb hd hx I .nil h)

structure Mk (K : PySem.W.Frag) (C f : Addr) : Prop where
  makes : PySem.W.makesIn K C = true
  init : PySem.W.findIn K (.ref C) "__init__" = some (some (.ref f))
  fn : PySem.W.isFn K (.ref f) = true
  kp : PySem.W.keepIn K (.ref C) = true

theorem run_make {pins : List (Addr × Obj)} {σ : St} {H : Hp} {s : Shared} {Q : VK} {us : List Value} {vs : List V} (M : Mk X.K C f) (F : FnOk X.prog X.w X.K X.mg X.base CX k f fd ps sp) (hr : Room (k + 1) X.A) (hb : Binds X.K fd ps ds) (hd : Vals dvs ds)
    (hx : Passes CX X E) (I : Inv X pins σ H s) (r : Vals vs us)
    (h : ∀ x dx, H x = none → H dx = none → dx ≠ x → sp (.ref x :: (vs ++ dvs)) (upd (upd H dx (.own x)) x (.ins C dx [])) (fun v H2 => v = .non ∧ Q (.ref x) H2) E) :
    wpAny (model X.prog X.w) X.A (call (.ref C) us) (EP X pins σ Q) X.xe s := by
  have hq := h (s.heap.objs.size + 1) s.heap.objs.size (I.hok.fresh (Nat.le_succ _)) (I.hok.fresh (Nat.le_refl _)) (Nat.ne_of_lt (Nat.lt_succ_self _))
  have I2 := Inv.made (C := C) I
  have r2 : Vals (V.ref (s.heap.objs.size + 1) :: (vs ++ dvs)) (Value.ref (s.heap.objs.size + 1) :: (us ++ ds)) := .cons rfl (r.append hd)
  have hl : (Value.ref (s.heap.objs.size + 1) :: us ++ ds).length = ps.length := by
    have e := r2.length
    rw [F.len _ _ _ _ hq] at e
    exact e.symm
  refine wpAny_call (make_map (f := f) I.kIn M.makes M.init (beq_iff_eq.mp M.fn) (codeAny_mono (F.run _ X.stack _ _ ⟨Value.ref (s.heap.objs.size + 1) :: us, []⟩ (Value.ref (s.heap.objs.size + 1) :: (us ++ ds)) _ _ E (hr.make C us [])
    (I2.env0.make C us []) (hb _ (Value.ref (s.heap.objs.size + 1) :: us) I2.kIn hl) r2 hq) fun r s' hq' => ?_))
  cases r with
  | error e => exact hx pins σ _ _ e s' I2 hq'
  | ok fl =>
    cases fl with
    | ret u =>
      obtain ⟨v, H', I3, rv, ev, q3⟩ := I2.after hq'
      subst ev
      exact ⟨rv, ⟨V.ref (s.heap.objs.size + 1), H', I3, rfl, q3⟩⟩
    | next => exact False.elim hq'
    | brk => exact False.elim hq'
    | cont => exact False.elim hq'
end

section
variable {X : Cx} {CX : CXT} {k : Nat} {f C : Addr} {fd : FuncData} {ps ks : List Str} {sp : Sp} {E : XK} {x m : Str} {p pos apos kpos : Pos} {e o : Expr} {es : List Expr} {kws : List Keyword} {te ta : TE} {t tk : TA} {nm : Option Str}
variable {g : List Value → List Value → List Value} {gV : List V → List V → List V}
end

structure FnScope (N P : List Str) (sc : Scope) : Prop where
  kind : sc.kind = .function
  co : sc.isCoroutine = false
  gen : sc.isGenerator = false
  nd : N.Nodup
  pre : N.take P.length = P
  par : ∀ x ∈ P, sc.names.lookup x = some .local ∨ sc.names.lookup x = some .cell
  nofree : ∀ y ∈ sc.names, y.2 ≠ .free

theorem bindL_out {kindOf : Str → Option NameKind} {x : Str} : ∀ {binds : List (Str × Value)} {m : Str → Option Value}, (∀ v, (x, v) ∉ binds) → bindL kindOf binds m x = m x
  | [], _, _ => rfl
  | (n, v) :: r, m, h => by
    unfold bindL
    rw [bindL_out fun w hw => h w (List.mem_cons_of_mem _ hw)]
    split
    · have : x ≠ n := by rintro rfl; exact h v List.mem_cons_self
      simp [this]
    · rfl
theorem bindC_out {kindOf : Str → Option NameKind} {x : Str} : ∀ {binds : List (Str × Value)} {m : Str → Option Value}, (∀ v, (x, v) ∉ binds) → bindC kindOf binds m x = m x
  | [], _, _ => rfl
  | (n, v) :: r, m, h => by
    unfold bindC
    rw [bindC_out fun w hw => h w (List.mem_cons_of_mem _ hw)]
    split
    · rfl
    · have : x ≠ n := by rintro rfl; exact h v List.mem_cons_self
      simp [this]
theorem bindL_get {kindOf : Str → Option NameKind} {x : Str} {v : Value} : ∀ {P : List Str} {vs : List Value} {i : Nat} {m : Str → Option Value}, P.Nodup → P[i]? = some x → vs[i]? = some v → kindOf x = some .local →
    bindL kindOf (P.zip vs) m x = some v
  | [], _, _, _, _, h, _, _ => by simp at h
  | _ :: _, [], _, _, _, _, h, _ => by simp at h
  | p :: P, w :: vs, 0, m, nd, h1, h2, hk => by
    simp at h1 h2; subst h1; subst h2
    show bindL kindOf ((p, w) :: P.zip vs) m p = _
    unfold bindL
    rw [bindL_out fun v hv => (List.nodup_cons.mp nd).1 (List.of_mem_zip hv).1, if_pos hk]
    simp
  | p :: P, w :: vs, i + 1, m, nd, h1, h2, hk => by
    show bindL kindOf ((p, w) :: P.zip vs) m x = _
    unfold bindL
    exact bindL_get (i := i) (List.nodup_cons.mp nd).2 (by simpa using h1) (by simpa using h2) hk
theorem bindC_get {kindOf : Str → Option NameKind} {x : Str} {v : Value} : ∀ {P : List Str} {vs : List Value} {i : Nat} {m : Str → Option Value}, P.Nodup → P[i]? = some x → vs[i]? = some v → kindOf x ≠ some .local →
    bindC kindOf (P.zip vs) m x = some v
  | [], _, _, _, _, h, _, _ => by simp at h
  | _ :: _, [], _, _, _, _, h, _ => by simp at h
  | p :: P, w :: vs, 0, m, nd, h1, h2, hk => by
    simp at h1 h2; subst h1; subst h2
    show bindC kindOf ((p, w) :: P.zip vs) m p = _
    unfold bindC
    rw [bindC_out fun v hv => (List.nodup_cons.mp nd).1 (List.of_mem_zip hv).1, if_neg hk]
    simp
  | p :: P, w :: vs, i + 1, m, nd, h1, h2, hk => by
    show bindC kindOf ((p, w) :: P.zip vs) m x = _
    unfold bindC
    exact bindC_get (i := i) (List.nodup_cons.mp nd).2 (by simpa using h1) (by simpa using h2) hk

def start (N : List Str) (vs : List V) : St := vs.map some ++ List.replicate (N.length - vs.length) none

def cxOf (CX : CXT) (P : Program) (w : World) (K : PySem.W.Frag) (mg : Str → Option Value) (base : Heap) (N : List Str) (qual : Str) (scope : Scope) (f : Addr) (cd : Value) (A : Around) (outer : List Env) (s : Shared) (H : Hp) (E : XK) : Cx where
  prog := P
  w := w
  K := K
  mg := mg
  base := base
  A := A.deeper (envOfC qual scope s.heap.objs.size f cd)
  N := N
  s_0 := s
  H_0 := H
  env := envOfC qual scope s.heap.objs.size f cd
  outer := outer
  stack := envOfC qual scope s.heap.objs.size f cd :: outer
  ex := []
  calm := true
  fn := fun _ => true
  pn := []
  xe := fun e s' => wpAny (model P w) (A.deeper (envOfC qual scope s.heap.objs.size f cd)) (leaving (envOfC qual scope s.heap.objs.size f cd) e) (fun _ s'' => CX outer H s E e s'') (fun e' s'' => CX outer H s E e' s'') s'

theorem cell_has {sc : Scope} {n : Nat} {x : Str} (h : sc.names.lookup x = some .cell) : ∃ c, (cellsFrom n sc.names []).lookup x = some c := by
  have q := PySem.W.cellsFrom_some sc.names n [] (.inl h)
  exact Option.isSome_iff_exists.mp q

theorem inv_start {CX : CXT} {P : Program} {w : World} {K : PySem.W.Frag} {mg : Str → Option Value} {base : Heap} {N ps : List Str} {qual : Str} {scope : Scope} {f : Addr} {cd : Value} {A : Around} {outer : List Env} {s s1 : Shared} {H : Hp} {E : XK} {us : List Value} {vs : List V}
    (S : FnScope N ps scope) (hd : A.handled = none) (e0 : Env0 P w K mg base A outer s H) (hl : vs.length = ps.length) (r : Vals vs us)
    (x : InCallC s s.heap.objs.size (bindL (envOfC qual scope s.heap.objs.size f cd).kindOf (ps.zip us) fun _ => none) (cellsFrom (s.heap.objs.size + 1) scope.names []) (bindC (envOfC qual scope s.heap.objs.size f cd).kindOf (ps.zip us) fun _ => none) s1) :
    Inv (cxOf CX P w K mg base N qual scope f cd A outer s H E) [] (start N vs) H s1 := by
  have hpl : ps.length ≤ N.length := by have := congrArg List.length S.pre; rw [List.length_take] at this; omega
  obtain ⟨h1, tk, rfl, hk⟩ := x.done
  have noA : ∀ b : Addr, b ∉ (cxOf CX P w K mg base N qual scope f cd A outer s H E).ex := fun b z => absurd (show b ∈ ([] : List Addr) from z) (by simp)
  refine ⟨⟨e0.mod, S.kind, rfl, rfl, Nat.le_refl _, fun y z c h1 h2 => ?_, fun y hy => ?_, fun y c _ h => ?_, fun _ => hd, Around.frames_deeper e0.frames, .inr ⟨rfl, rfl⟩, fun b z => absurd z (noA b), e0.bs, e0.bsz, fun b _ _ => noA b, fun b z => absurd z (noA b), e0.funs, e0.frf⟩,
    rfl, e0.bare, Un.kept hk, ⟨_, x.toInCall.ns, fun i y v h1 h2 h3 => ?_⟩, fun y c h => ⟨_, x.cell y c h⟩, e0.hok.fresh (Nat.le_refl _), fun y c h => ?_, fun p hp => absurd (show p ∈ ([] : List (Addr × Obj)) from hp) (by simp), e0.hok.kept hk, ?_⟩
  · exact name_of_addr x.apart (PySem.mem_of_lookup h1) (PySem.mem_of_lookup h2)
  · have hy : scope.names.lookup y = some .cell ∨ scope.names.lookup y = some .free := hy
    rcases hy with hy | hy
    · exact cell_has hy
    · exact absurd rfl (S.nofree _ (PySem.mem_of_lookup hy))
  · exact Nat.le_of_lt (x.above y c (PySem.mem_of_lookup h))
  · have hi : i < vs.length := by
      unfold start at h2
      by_cases hi : i < vs.length
      · exact hi
      · rw [List.getElem?_append_right (by simpa using hi)] at h2
        rw [List.getElem?_replicate] at h2
        split at h2 <;> cases h2
    have ha : vs[i]? = some v := by
      unfold start at h2
      rw [List.getElem?_append_left (by simpa using hi), List.getElem?_map] at h2
      cases e : vs[i]? with
      | none => rw [e] at h2; cases h2
      | some a => rw [e] at h2; cases h2; rfl
    obtain ⟨u, hu, rv⟩ := r.get ha
    have hp : ps[i]? = some y := by
      rw [← S.pre, List.getElem?_take_of_lt (by omega)]; exact h1
    have ndP : ps.Nodup := by rw [← S.pre]; exact S.nd.sublist (List.take_sublist _ _)
    refine ⟨u, rv, ?_⟩
    rcases S.par y (List.mem_of_getElem? hp) with k | k
    · exact .inl ⟨k, bindL_get ndP hp hu k⟩
    · obtain ⟨c, e⟩ := cell_has (n := s.heap.objs.size + 1) k
      refine .inr ⟨.inl k, c, e, ?_⟩
      have q := x.cell y c e
      rw [bindC_get ndP hp hu (by show scope.names.lookup y ≠ _; rw [k]; decide)] at q
      exact q
  · exact e0.hok.fresh (Nat.le_of_lt (x.above y c (PySem.mem_of_lookup h)))
  · unfold start
    show _ = N.length
    rw [List.length_append, List.length_map, List.length_replicate]
    omega

theorem fn_of {CX : CXT} {P : Program} {w : World} {K : PySem.W.Frag} {mg : Str → Option Value} {base : Heap} {k : Nat} {f : Addr} {name qual : Str} {params : Arguments} {body : List Stmt} {scope : Scope} {dV kV doc pm cdv ct oc : Value} {an od : Option Addr}
    {osl : Array (Option Value)} {N ps : List Str} {sp : Sp} (lk : K.lookup f = some ⟨oc, od, .func (PySem.W.fnOf name qual params body scope dV kV doc pm an cdv ct), osl⟩) (hcd : PySem.W.codeIn K cdv qual = true) (S : FnScope N ps scope)
    (len : ∀ vs H Q E, sp vs H Q E → vs.length = ps.length)
    (hbody : ∀ (A : Around) (outer : List Env) (s : Shared) (H : Hp) (vs : List V) (Q : VK) (E : XK), Room k (A.deeper (envOfC qual scope s.heap.objs.size f cdv)) → sp vs H Q E →
      ∃ t, PSs (cxOf CX P w K mg base N qual scope f cdv A outer s H E) body t ∧ t { nx := fun _ H' => Q .non H', rt := Q } (start N vs) H) :
    FnOk P w K mg base CX (k + 1) f (PySem.W.fnOf name qual params body scope dV kV doc pm an cdv ct) ps sp := by
  refine ⟨len, fun A outer s H args us vs Q E hr e0 hb r hsp => ?_⟩
  have hl := len _ _ _ _ hsp
  have KX : K.In s.heap := e0.mod.kin.keeps fun b o e => (e0.bs b o e).1
  have lim : s.heap.NoLimit := e0.mod.nolimit.keeps fun b o e => (e0.bs b o e).1
  have hkind : ∀ y ∈ ps.zip us, scope.names.lookup y.1 = some .local ∨ (scope.names.lookup y.1 = some .cell ∧ ((cellsFrom (s.heap.objs.size + 1) scope.names []).lookup y.1).isSome = true) := fun ⟨n, v⟩ hy => by
    rcases S.par n (List.of_mem_zip hy).1 with q | q
    · exact .inl q
    · exact .inr ⟨q, PySem.W.cellsFrom_some _ _ _ (.inl q)⟩
  refine codeAny_call_function hr.depth (KX _ _ lk) rfl S.co S.gen rfl (PySem.W.codeRec_of KX hcd) (hb _ _ _ _ ?_)
  refine wpAny_newFunctionEnv_cells S.kind hkind fun env he s1 x => ?_
  subst he
  refine ⟨lim.keeps x.toInCall.keep, codeAny_func ?_⟩
  obtain ⟨t, ht, hq⟩ := hbody A outer s H vs Q E (hr.deeper _) hsp
  have I : Inv (cxOf CX P w K mg base N qual scope f cdv A outer s H E) [] (start N vs) H s1 := inv_start S hr.hd e0 hl r x
  refine wpAny_mono (ht [] s1 (start N vs) H _ I hq) (fun fl s' hs => ?_) fun e s' hs => hs
  have fin : ∀ {σ' : St} {H' : Hp} {v : V} {u : Value}, Inv (cxOf CX P w K mg base N qual scope f cdv A outer s H E) [] σ' H' s' → RelV v u → Q v H' → CE outer P w H s Q u s' :=
    fun {σ' H' v u} J rv q => ⟨v, H', J.os, J.bare, J.base, J.hok, rv, q⟩
  cases fl with
  | ret u =>
    obtain ⟨v, σ', H', J, rv, q⟩ := hs
    exact fin J rv q
  | next =>
    obtain ⟨σ', H', J, q⟩ := hs
    exact fin (v := V.non) (u := Value.none) J rfl q
  | brk =>
    obtain ⟨_, _, _, q⟩ := hs
    exact False.elim q
  | cont =>
    obtain ⟨_, _, _, q⟩ := hs
    exact False.elim q
end L2

namespace L2
open PySem PySem.Spec PyProof.Rows
section
variable {X : Cx} {x : Str} {p pos : Pos} {e : Expr} {es : List Expr} {t : TA} {id T : String} {r : List V → Hp → VK → Prop}

def tCB (r : List V → Hp → VK → Prop) (t : TA) : TE := fun σ H Q => t σ H fun vs H1 => r vs H1 Q
theorem pe_callB (hc : CallR X (.builtin id) r) (hg : Gl X x) (hm : X.mg x = none) (hv : bootBuiltins x = some (.builtin id)) (ha : PA X (e :: es) t) (hn : x ≠ "__name__" := by decide) (hdb : (x == ("__debug__" : Str)) = false := by decide)
    (he : starEach (e :: es) X.env = (false, eval e X.env) :: starEach es X.env := by rfl) (hpl : (backTo pos (starEach es X.env)).any (·.1) = false := by rfl) : PE X (.Call (.Name x p) (e :: es) [] pos) (tCB r t) := by
  intro pins s σ H Q I h
  refine wpAny_Call_Name_kw (ld_blt I hg hm hv ?_ hn hdb)
  exact PyProof.Rows.callWith_builtin1 (thn (ha pos pins s σ H _ I h) fun us s1 ⟨vs, H1, I1, r1, q1⟩ => hc pins s1 σ H1 vs us Q I1 r1 q1) he hpl
theorem pe_callTy (hc : CallR X (.type T) r) (hg : Gl X x) (hm : X.mg x = none) (hv : bootBuiltins x = some (.type T)) (ha : PA X (e :: es) t) (hn : x ≠ "__name__" := by decide) (hdb : (x == ("__debug__" : Str)) = false := by decide)
    (he : starEach (e :: es) X.env = (false, eval e X.env) :: starEach es X.env := by rfl) (hpl : (backTo pos (starEach es X.env)).any (·.1) = false := by rfl) : PE X (.Call (.Name x p) (e :: es) [] pos) (tCB r t) := by
  intro pins s σ H Q I h
  refine wpAny_Call_Name_kw (ld_blt I hg hm hv ?_ hn hdb)
  exact PyProof.Rows.callWith_type1 (thn (ha pos pins s σ H _ I h) fun us s1 ⟨vs, H1, I1, r1, q1⟩ => hc pins s1 σ H1 vs us Q I1 r1 q1) he hpl
end
end L2

namespace HT
open PySem PyProof.Rows

section
open PySem.SeqAt
open PySem.AutoSeq1 (wpAny_loadPart')
open PySem.MeetsSeq PySem.MeetsSeq2 PySem.MeetsSeq3

end

section
variable {prog : Program} {w : World} {A : Around} {E : Value → Shared → Prop} {s : Shared}

end
end HT

namespace L2
open PySem PySem.Spec PyProof.Rows

abbrev TO := St → Hp → (Option Int → Hp → Prop) → Prop
section
variable {X : Cx} {e : Expr} {te : TE} {lo hi : Option Expr} {tl th : TO} {pos p2 : Pos}

def SlR (X : Cx) (r : V → Option Int → Option Int → Hp → VK → Prop) : Prop :=
  ∀ (pins : List (Addr × Obj)) (s : Shared) (σ : St) (H : Hp) (x : V) (v vl vu : Value) (lo hi : Option Int) (sl : Addr) (Q : VK), Inv X pins σ H s → RelV x v → s.heap.IsSliceOf sl vl vu .none → IsPart vl lo → IsPart vu hi → r x lo hi H Q →
    ∃ T id, typeLookup (.type T) "__getitem__" = pure (some (.builtin id)) ∧ s.TypeIs v T ∧ wpAny (model X.prog X.w) X.A (getItem v (.ref sl)) (EP X pins σ Q) X.xe s
theorem SlR.or {r r' : V → Option Int → Option Int → Hp → VK → Prop} (h : SlR X r) (h' : SlR X r') : SlR X (fun x lo hi H Q => r x lo hi H Q ∨ r' x lo hi H Q) := by
  intro pins s σ H x v vl vu lo hi sl Q I rx hs pl pu q
  rcases q with q | q
  · exact h pins s σ H x v vl vu lo hi sl Q I rx hs pl pu q
  · exact h' pins s σ H x v vl vu lo hi sl Q I rx hs pl pu q
end
end L2

namespace L2
open PySem PySem.Spec PyProof.Rows

def IxR (X : Cx) (r : R2) : Prop :=
  ∀ (value slice : Expr) (pins : List (Addr × Obj)) (s : Shared) (σ : St) (H : Hp) (x y : V) (v u : Value) (Q : VK), Inv X pins σ H s → RelV x v → RelV y u → r x y H Q →
    subscripted slice false v u = operate [v, u] (getItem v u) → wpAny (model X.prog X.w) X.A (subscriptTail value slice v u) (EP X pins σ Q) X.xe s
def MtR (X : Cx) (id : String) (r : V → List V → Hp → VK → Prop) : Prop :=
  ∀ (pins : List (Addr × Obj)) (s : Shared) (σ : St) (H : Hp) (x : V) (xs : List V) (v : Value) (us : List Value) (Q : VK), Inv X pins σ H s → RelV x v → Vals xs us → r x xs H Q →
    wpAny (model X.prog X.w) X.A (call (.builtin id) (v :: us)) (EP X pins σ Q) X.xe s
section
variable {X : Cx} {a b : Expr} {ta tb : TE} {pos : Pos}
theorem IxR.or {r r' : R2} (h : IxR X r) (h' : IxR X r') : IxR X (fun x y H Q => r x y H Q ∨ r' x y H Q) := by
  intro value slice pins s σ H x y v u Q I rx ry q hs
  rcases q with q | q
  · exact h value slice pins s σ H x y v u Q I rx ry q hs
  · exact h' value slice pins s σ H x y v u Q I rx ry q hs
theorem MtR.or {id : String} {r r' : V → List V → Hp → VK → Prop} (h : MtR X id r) (h' : MtR X id r') : MtR X id (fun x xs H Q => r x xs H Q ∨ r' x xs H Q) := by
  intro pins s σ H x xs v us Q I rx rs q
  rcases q with q | q
  · exact h pins s σ H x xs v us Q I rx rs q
  · exact h' pins s σ H x xs v us Q I rx rs q
theorem Inv.lst {pins : List (Addr × Obj)} {σ : St} {H : Hp} {s : Shared} {p : Addr} {xs : List V} (I : Inv X pins σ H s) (h : H p = some (.lst xs)) :
    ∃ (its : List Value) (n : Nat), Vals xs its ∧ s.heap.get? p = some { cls := .type "list", data := .seq its.toArray n } ∧ xs.length ≤ sizeLine := by
  obtain ⟨z, its, n, r, e⟩ := I.hok p _ h
  exact ⟨its, n, r, e, z⟩
theorem call_len_str : CallR X (.builtin "len") (fun xs H Q => ∃ z, xs = [.str z] ∧ z.length ≤ sizeLine ∧ Q (.int z.length) H) := by
  intro pins s σ H xs us Q I r h
  obtain ⟨z, rfl, hz, q⟩ := h
  obtain ⟨u, rfl, t, rfl⟩ := vals1 r
  have hn := line63
  exact len_str (by omega) ⟨.int z.length, H, I.tok _, ⟨_, rfl⟩, q⟩
theorem CallR.or {f : Value} {r r' : List V → Hp → VK → Prop} (h : CallR X f r) (h' : CallR X f r') : CallR X f (fun xs H Q => r xs H Q ∨ r' xs H Q) := by
  intro pins s σ H xs us Q I rs q
  rcases q with q | q
  · exact h pins s σ H xs us Q I rs q
  · exact h' pins s σ H xs us Q I rs q
variable {o e : Expr} {es : List Expr} {to : TE} {t : TA} {name : Str} {apos cpos : Pos} {T id : String} {r : V → List V → Hp → VK → Prop}
/- xs.append(e), list.index on a module's tuple .. are MtR facts of 06m -/
end
end L2

namespace L2
open PySem PySem.Spec PyProof.Rows

theorem Vals.one : ∀ {x : V} {us : List Value}, Vals [x] us → ∃ u, us = [u] ∧ RelV x u
  | _, _, .cons r .nil => ⟨_, rfl, r⟩
theorem Vals.zero : ∀ {us : List Value}, Vals [] us → us = []
  | _, .nil => rfl
section
variable {X : Cx} {pins : List (Addr × Obj)} {σ : St} {H : Hp} {s : Shared} {l b : Addr} {xs ys zs : List V}

theorem Inv.fresh (I : Inv X pins σ H s) : H s.heap.objs.size = none := I.hok.fresh (Nat.le_refl _)
end

section
variable {X : Cx}

end

section
variable {prog : Program} {w : World} {A : Around} {E : Value → Shared → Prop} {s : Shared}
set_option maxRecDepth 100000 in
end

section
variable {X : Cx}
end
end L2

namespace L2
open PySem PySem.Spec PyProof.Rows

theorem Vals.ints : ∀ {ns : List Int} {us : List Value}, Vals (ns.map V.int) us → IntsAre us ns
  | [], us, h => by
    rw [List.map_nil] at h
    cases h
    exact IntsAre.nil
  | n :: ns, us, h => by
    rw [List.map_cons] at h
    cases h with
    | cons r t =>
      obtain ⟨k, rfl⟩ := r
      exact IntsAre.cons n k (Vals.ints t)
theorem Vals.strs : ∀ {xs : List Str} {us : List Value}, Vals (xs.map V.str) us → StrsAre us xs
  | [], us, h => by
    rw [List.map_nil] at h
    cases h
    exact StrsAre.nil
  | x :: xs, us, h => by
    rw [List.map_cons] at h
    cases h with
    | cons r t =>
      obtain ⟨k, rfl⟩ := r
      exact StrsAre.cons x k (Vals.strs t)
section
variable {prog : Program} {w : World} {A : Around} {E : Value → Shared → Prop} {s : Shared} {l : Addr} {its : List Value} {ns : List Int} {Q : Value → Shared → Prop}
end

section
variable {X : Cx}
end

section
variable {X : Cx}
end

section
variable {X : Cx}
end

section
variable {X : Cx}
end

mutual
inductive Dp (K : PySem.W.Frag) (H : Hp) : V → PyData → Prop
  | non : Dp K H .non .none
  | bl (b : Bool) : Dp K H (.bl b) (.bool b)
  | int (i : Int) : Dp K H (.int i) (.int i)
  | str (x : Str) : Dp K H (.str x) (.str x)
  | lst {a : Addr} {xs : List V} {ds : List PyData} : SqL K H a xs → DpAll K H xs ds → Dp K H (.ref a) (.list ds)
  | tup {a : Addr} {xs : List V} {ds : List PyData} : SqT K H a xs → DpAll K H xs ds → Dp K H (.ref a) (.tuple ds)
inductive DpAll (K : PySem.W.Frag) (H : Hp) : List V → List PyData → Prop
  | nil : DpAll K H [] []
  | cons {v : V} {vs : List V} {d : PyData} {ds : List PyData} : Dp K H v d → DpAll K H vs ds → DpAll K H (v :: vs) (d :: ds)
end
section
variable {X : Cx} {pins : List (Addr × Obj)} {σ : St} {H : Hp} {s : Shared}
mutual
theorem Dp.reads (I : Inv X pins σ H s) : ∀ (d : PyData) (v : V) (u : Value), Dp X.K H v d → RelV v u → ∃ as, Reads s.heap u d as
  | .none, _, _, h, r => by
    cases h
    cases r
    exact ⟨_, Reads.none⟩
  | .bool b, _, _, h, r => by
    cases h
    cases r
    exact ⟨_, Reads.bool b⟩
  | .int i, _, _, h, r => by
    cases h
    obtain ⟨t, rfl⟩ := r
    exact ⟨_, Reads.int i t⟩
  | .str x, _, _, h, r => by
    cases h
    obtain ⟨t, rfl⟩ := r
    exact ⟨_, Reads.str x t⟩
  | .list ds, _, _, h, r => by
    cases h with
    | lst hs ha =>
      cases r
      obtain ⟨its, rv, ⟨o, n, ho, hc, _, hd⟩, _⟩ := I.list hs
      obtain ⟨as, hr⟩ := Dp.readsAll I ds _ its ha rv
      exact ⟨_, Reads.list ho hc hd hr⟩
  | .tuple ds, _, _, h, r => by
    cases h with
    | tup hs ha =>
      cases r
      obtain ⟨its, rv, ⟨o, ho, hc, n, hd⟩, _⟩ := I.tuple hs
      obtain ⟨as, hr⟩ := Dp.readsAll I ds _ its ha rv
      exact ⟨_, Reads.tuple ho hc hd hr⟩
  | .dict _, _, _, h, _ => by cases h
theorem Dp.readsAll (I : Inv X pins σ H s) : ∀ (ds : List PyData) (vs : List V) (us : List Value), DpAll X.K H vs ds → Vals vs us → ∃ as, ReadsAll s.heap us ds as
  | [], _, _, h, r => by
    cases h
    cases r
    exact ⟨_, ReadsAll.nil⟩
  | d :: ds, _, _, h, r => by
    cases h with
    | cons h1 h2 =>
      cases r with
      | cons r1 r2 =>
        obtain ⟨as, q1⟩ := Dp.reads I d _ _ h1 r1
        obtain ⟨bs, q2⟩ := Dp.readsAll I ds _ _ h2 r2
        exact ⟨_, ReadsAll.cons q1 q2⟩
end
end
section
variable {X : Cx}
end
end L2

namespace L2
open PySem PySem.Spec PyProof.Rows
section
variable {X : Cx} {pins : List (Addr × Obj)} {σ : St} {H : Hp} {s : Shared}
end

section
variable {X : Cx}
end

end L2

namespace L2
open PySem PySem.Spec PyProof.Rows

section
variable {prog : Program} {w : World} {A : Around} {R : Result → Shared → Prop} {s : Shared} {elt t0 i0 t1 i1 : Expr} {ifs0 ifs1 : List Expr} {scope : Scope} {pos : Pos} {it acc : Value} {env : Env}
end

section
variable {X : Cx}
end
end L2

namespace L2
open PySem PySem.Spec PyProof.Rows

section
variable {κ : Type} [DecidableEq κ]
def valV (kvs : List (κ × V)) (k : κ) : Option V := (kvs.find? fun kv => decide (kv.1 = k)).map (·.2)
def putK (kvs : List (κ × V)) (k : κ) (v : V) : List (κ × V) :=
  if (kvs.any fun kv => decide (kv.1 = k)) = true then kvs.map (fun kv => if kv.1 = k then (kv.1, v) else kv) else kvs ++ [(k, v)]
def dropK (kvs : List (κ × V)) (k : κ) : List (κ × V) := kvs.filter fun kv => decide (kv.1 ≠ k)

theorem RelO.getD {o : Option V} {u : Option Value} {d : V} {d' : Value} (r : RelO o u) (rd : RelV d d') : RelV (o.getD d) (u.getD d') := by
  cases o with
  | none => cases u with
    | none => exact rd
    | some _ => exact (show False from r).elim
  | some _ => cases u with
    | none => exact (show False from r).elim
    | some _ => exact r

theorem KV.any {kvs : List (κ × V)} {vs : List (κ × Value)} (r : KV kvs vs) (k : κ) : (kvs.any fun kv => decide (kv.1 = k)) = vs.any fun kv => decide (kv.1 = k) := by
  unfold KV at r
  induction r with
  | nil => rfl
  | cons h t ih => rw [List.any_cons, List.any_cons, ih, h.1]
theorem KV.drop {kvs : List (κ × V)} {vs : List (κ × Value)} (r : KV kvs vs) (k : κ) : KV (dropK kvs k) (without vs k) := by
  unfold KV at r ⊢
  unfold dropK without
  induction r with
  | nil => exact .nil
  | @cons p q ps qs h t ih =>
    obtain ⟨h1, h2⟩ := h
    rw [List.filter_cons, List.filter_cons]
    by_cases e : p.1 = k
    · have a : ¬ decide (p.1 ≠ k) = true := by simp [e]
      have b : ¬ decide (q.1 ≠ k) = true := by simp [h1.symm.trans e]
      rw [if_neg a, if_neg b]; exact ih
    · have e' : ¬ q.1 = k := fun z => e (h1.trans z)
      have a : decide (p.1 ≠ k) = true := by simp [e]
      have b : decide (q.1 ≠ k) = true := by simp [e']
      rw [if_pos a, if_pos b]; exact .cons ⟨h1, h2⟩ ih
theorem KV.keys {kvs : List (κ × V)} {vs : List (κ × Value)} (r : KV kvs vs) : kvs.map (·.1) = vs.map (·.1) := by
  unfold KV at r
  induction r with
  | nil => rfl
  | cons h t ih => rw [List.map_cons, List.map_cons, ih, h.1]
theorem KV.length {kvs : List (κ × V)} {vs : List (κ × Value)} (r : KV kvs vs) : kvs.length = vs.length := Paired.length r
end


abbrev KT (H : Hp) : List (List Key × V) → List (List Key × Addr × Value) → Prop := Paired fun p q => p.1 = q.1 ∧ H q.2.1 = some (.tup (p.1.map kV)) ∧ RelV p.2 q.2.2
theorem KT.keeps {H H' : Hp} {kvs : List (List Key × V)} {xs : List (List Key × Addr × Value)} (r : KT H kvs xs) (ht : ∀ b ys, H b = some (.tup ys) → H' b = some (.tup ys)) : KT H' kvs xs :=
  Paired.mapP r fun _ _ z => ⟨z.1, ht _ _ z.2.1, z.2.2⟩

section
variable {P : Program} {w : World} {H : Hp} {h : Heap} {a : Addr}
end

def DGet (H : Hp) (a : Addr) (y : V) (r : Option V) : Prop :=
  (∃ kvs k, Rd H a (.dK kvs) ∧ y = kV k ∧ r = valV kvs k) ∨ ∃ kvs k b, Rd H a (.dT kvs) ∧ y = .ref b ∧ H b = some (.tup (k.map kV)) ∧ r = valV kvs k
def DPut (H : Hp) (a : Addr) (y v : V) (H' : Hp) : Prop :=
  (∃ kvs k, H a = some (.dK kvs) ∧ y = kV k ∧ kvs.length < sizeLine ∧ H' = upd H a (.dK (putK kvs k v))) ∨
  ∃ kvs k b, H a = some (.dT kvs) ∧ y = .ref b ∧ H b = some (.tup (k.map kV)) ∧ kvs.length < sizeLine ∧ H' = upd H a (.dT (putK kvs k v))
theorem DGet.k {H : Hp} {a : Addr} {kvs : List (Key × V)} {k : Key} (e : H a = some (.dK kvs)) : DGet H a (kV k) (valV kvs k) := .inl ⟨kvs, k, .inl e, rfl, rfl⟩
theorem DGet.t {H : Hp} {a b : Addr} {kvs : List (List Key × V)} {k : List Key} (e : H a = some (.dT kvs)) (eb : H b = some (.tup (k.map kV))) : DGet H a (.ref b) (valV kvs k) := .inr ⟨kvs, k, b, .inl e, rfl, eb, rfl⟩
theorem DPut.k {H : Hp} {a : Addr} {kvs : List (Key × V)} {k : Key} {v : V} (e : H a = some (.dK kvs)) (hl : kvs.length < sizeLine) : DPut H a (kV k) v (upd H a (.dK (putK kvs k v))) := .inl ⟨kvs, k, e, rfl, hl, rfl⟩
theorem DPut.t {H : Hp} {a b : Addr} {kvs : List (List Key × V)} {k : List Key} {v : V} (e : H a = some (.dT kvs)) (eb : H b = some (.tup (k.map kV))) (hl : kvs.length < sizeLine) :
    DPut H a (.ref b) v (upd H a (.dT (putK kvs k v))) := .inr ⟨kvs, k, b, e, rfl, eb, hl, rfl⟩


section
variable {X : Cx} {pins : List (Addr × Obj)} {σ : St} {H : Hp} {s : Shared} {a : Addr} {y v : V} {u r : Value} {o : Option V} {A : Around} {E : Value → Shared → Prop}

end

section
variable {X : Cx} {pins : List (Addr × Obj)} {σ : St} {H : Hp} {s : Shared} {a : Addr} {kvs : List (Key × V)} {k : Key} {u : Value} {A : Around} {E : Value → Shared → Prop}
end


section
variable {X : Cx} {o i e value : Expr} {pos pos' tpos : Pos} {td ty tv : TE}
end


section
variable {X : Cx} {pos : Pos}
end

section
variable {X : Cx} {pins : List (Addr × Obj)} {σ : St} {H : Hp} {s : Shared} {a : Addr} {y d : V} {u r : Value} {o : Option V} {A : Around} {E : Value → Shared → Prop}
end

section
variable {X : Cx} {o e f : Expr} {apos cpos : Pos} {td ty tx : TE}
end

section
variable {X : Cx} {pins : List (Addr × Obj)} {σ : St} {H : Hp} {s : Shared} {a : Addr} {kvs : List (Key × V)} {A : Around} {E : Value → Shared → Prop}
end


section
variable {X : Cx} {pins : List (Addr × Obj)} {σ : St} {H : Hp} {s : Shared} {a : Addr} {y : V} {u : Value} {A : Around} {E : Value → Shared → Prop}
end
end L2

namespace L2
open PySem PySem.Spec PyProof.Rows

section
variable {prog : Program} {w : World} {A : Around} {E : Value → Shared → Prop}
end

section
variable {X : Cx}
end
end L2

namespace L2
open PySem PySem.Spec PyProof.Rows

section
variable {X : Cx} {pins : List (Addr × Obj)} {σ : St} {H : Hp} {s : Shared} {h' : Heap}
end
section
variable {X : Cx}
end

def RgC (i j c : Int) (n : Nat) : Prop := c ≠ 0 ∧ c.natAbs < 1073741824 ∧ Builtin.Range.small i j c = true ∧ Builtin.Range.rangeSize i j c = n
theorem RgC.neg {i j : Int} (ha : -(2 ^ 62) ≤ i) (ha' : i < 2 ^ 62) (hb : -(2 ^ 62) ≤ j) (hb' : j < 2 ^ 62) : RgC i j (-1) (i - j).toNat :=
  ⟨by decide, by decide, PySem.W.small_down ha ha' hb hb', PySem.W.rangeSize_downNat i j⟩
section
variable {X : Cx} {tg : Expr}
end
section
variable {X : Cx} {tg : Expr}
end

section
variable {prog : Program} {w : World} {A : Around} {E : Value → Shared → Prop} {s : Shared}
end

section
variable {X : Cx} {pins : List (Addr × Obj)} {σ : St} {H : Hp} {s : Shared} {d : Addr} {o : Obj}
end

section
variable {P : Program} {w : World} {K : PySem.W.Frag} {tg : Expr} {d : Addr} {o : Obj} {es : Array DictEntry} {ep : Nat}
end

section
variable {X : Cx} {tg e : Expr} {td : TE} {apos cpos : Pos}
end

end L2

section 
namespace Bits
open PySem PyProof.Rows

end Bits
end 

section 
namespace TL
open PySem PySem.Builtin PySem.Builtin.Str PySem.StrLaws

abbrev tl (x : Str) : List Nat := x.cps.toList
def pre (S l : List Nat) : Bool := l.take S.length == S
def par (S : List Nat) : List Nat → List Nat → Option (List Nat × List Nat)
  | _, [] => none
  | acc, c :: r => if pre S (c :: r) = true then some (acc, (c :: r).drop S.length) else par S (acc ++ [c]) r

end TL
end 

namespace L2
open PySem PySem.Spec PyProof.Rows

section
variable {X : Cx} {pins : List (Addr × Obj)} {σ : St} {H : Hp} {s : Shared} {Q : VK}
end

section
variable {X : Cx}

end

section
variable {X : Cx} {o e : Expr} {to te : TE}
end
end L2

namespace L2
open PySem PySem.Spec PyProof.Rows

section
variable {X : Cx}
end

end L2

namespace Att
open PySem PySem.W PySem.Calls PyProof.Rows

theorem ints_of_wellAll {P : Params} {h : Heap} : ∀ (ns : List Int) (vs : List Value), WellAll P h vs (ns.map WData.int) → IntsAre vs ns := by
  intro ns
  induction ns with
  | nil =>
    intro vs w
    rw [List.map_nil] at w
    cases w
    exact .nil
  | cons n ns ih =>
    intro vs w
    rw [List.map_cons] at w
    cases w with
    | cons a b =>
      cases a
      exact .cons _ _ (ih _ b)

theorem script_of {l : OpenLaw} {n : Nat} (hn : l.most = some n) {P : Params} {h : Heap} {args : List WData} {vals : List Value}
    (hpre : l.row.toRowW.claim.pre args = true) (hwl : WellAll P h vals args) :
    ∃ a vs ns, vals = [Value.ref a] ∧ args = [WData.list (ns.map WData.int)] ∧ h.get? a = some { cls := .type "list", data := .seq vs.toArray } ∧ IntsAre vs ns ∧ ns.length ≤ n := by
  have hsh : WShape.hasAll [] args [.list .int] = true := (pre_splitW hpre).1
  have hc : l.pre.holds [] { args := args } = true := (pre_splitW hpre).2
  obtain ⟨d, r, rfl, h1, h2⟩ := hasAllW_cons hsh
  obtain rfl := hasAllW_nil h2
  obtain ⟨xs, rfl, h3⟩ := hasW_list h1
  obtain ⟨ns, rfl⟩ := items_int h3
  have hlen : ns.length ≤ n := by
    unfold OpenLaw.pre at hc
    have h4 : (WTm.not (.lt (.lit (.int (n : Int))) (.len (.arg 0)))).holds [] { args := [.list (ns.map .int)] } = true := by
      have h4 := (holds_andW hc).1
      rw [hn] at h4
      exact h4
    have h5 := condW_of h4 (w_not (w_lt w_lit (w_len_list (w_arg rfl))))
    rw [List.length_map] at h5
    refine Nat.le_of_not_lt fun q => ?_
    have q' : (n : Int) < ((ns.length : Nat) : Int) := by omega
    first
      | (rw [decide_eq_true q'] at h5; exact absurd h5 (by decide))
      | (simp at h5; omega)
  cases hwl with
  | cons w1 w2 =>
    cases w2
    cases w1 with
    | list ho hall => exact ⟨_, _, ns, rfl, rfl, ho, ints_of_wellAll ns _ hall, hlen⟩

theorem post_true (l : OpenLaw) (args : List WData) : l.row.toRowW.claim.post args (.bool true) args = true :=
  postW_of (r := l.row.toRowW) (X := (true == true))
    (show WShape.has [] (.bool true) .bool = true by first | rfl | decide | simp [WShape.has, WShape.arms, WShape.armsAll])
    (show (WTm.eq .res (.lit (.bool true))).value [] { args := args, res := some (.bool true), after := args } = some (.bool (true == true)) from w_eq_bool (w_res rfl) w_lit) rfl

theorem attach_call {l : OpenLaw} {n : Nat} {q : Program} {loose : List Str} {XP : (Str → Option Value) → Heap → Prop} {YP : World → Heap → Prop} {d : DefRec}
    (hn : l.most = some n) (hdf : d.params.defaults = [])
    (call : ∀ (w : World) (s₀ s₁ : Shared) (mg mb : Str → Option Value) (fa : Addr) (o : Obj) (pm cd doc : Value) (a : Addr) (vs : List Value) (ns : List Int),
      Ground q loose [] XP w s₀ mg mb s₁.heap → YP w s₁.heap →
      s₁.heap.get? fa = some o → o.data = .func (docDef d.name d.params d.body d.scope pm cd doc) → s₁.heap.CodeRec cd d.name → mg d.name = some (.ref fa) →
      s₁.heap.get? a = some { cls := .type "list", data := .seq vs.toArray } → IntsAre vs ns → ns.length ≤ n → s₁.gens = #[] →
      codeAny (model l.prog w) callerA (.call (.ref fa) ⟨[.ref a], []⟩) (fun r s' => r = .ok (.ret (.bool true)) ∧ OldK s₁.heap s'.heap ∧ s'.os = s₁.os ∧ AllBare s'.gens) s₁) :
    WalkO q loose XP YP l.row.toRowW d [] (fun f vs => PySem.call f vs) := by
  intro w s₀ s₁ mg mb G Y fa o pm cd doc dV kV ho hd hcd hD hmg hg args vals as hpre hlay hrd hwl hlo
  obtain rfl : dV = .none := Dflts.none hD hdf
  obtain rfl : kV = .none := Dflts.noKw hD
  obtain ⟨a, vs, ns, rfl, rfl, hobj, hints, hlen⟩ := script_of hn hpre hwl
  refine enter_call (codeAny_mono (call w s₀ s₁ mg mb fa o pm cd doc a vs ns G Y ho (fd_plain hd) hcd hmg hobj hints hlen hg) fun r s' hq => ?_)
  obtain ⟨rfl, h2, h3, h4⟩ := hq
  exact ⟨.inl ⟨.bool true, .bool true, [], rfl, fun _ => rfl, .bool true, post_true l _, fun _ => ⟨List.Pairwise.nil, fun _ hm => (nomatch hm)⟩⟩, h2, h3, h4⟩

section
variable {prog : Program} {w : World} {A : Around} {E : Value → Shared → Prop} {s : Shared} {K : Frag}

end
end Att

namespace L2
open PySem PySem.Spec PyProof.Rows

theorem vals_ints : ∀ {vs : List Value} {ns : List Int}, IntsAre vs ns → Vals (ns.map V.int) vs
  | _, _, .nil => .nil
  | _, _, .cons n t h => .cons ⟨t, rfl⟩ (vals_ints h)

def Only (H : Hp) : Prop := ∀ b, H b = none ∨ ∃ o xs, H b = some (.frz o (.lst xs))

theorem law_call {P : Program} {w : World} {K : PySem.W.Frag} {mg mb : Str → Option Value} {CX : CXT} {k : Nat} {fa a : Addr} {fd : FuncData} {x : Str} {sp : Sp} {s₁ : Shared} {vs : List Value} {ns : List Int}
    (KX : K.In s₁.heap) (hns : s₁.heap.Ns mainGlobals mg) (hb : s₁.heap.Ns builtinsNs mb) (hbb : ∀ x : Str, x ≠ "__name__" → mb x = bootBuiltins x) (hlim : s₁.heap.NoLimit) (hg : s₁.gens = #[])
    (ha : s₁.heap.get? a = some { cls := .type "list", data := .seq vs.toArray }) (hi : IntsAre vs ns) (hl : ns.length ≤ sizeLine) (hr : Room k callerA)
    (F : ∀ base : Heap, K.In base → base.Ns mainGlobals mg → FnOk P w K mg base CX k fa fd [x] sp) (hbind : ∀ (s : Shared) (u : Value), BindsTo s fd ⟨[u], []⟩ [(x, u)])
    (hsp : ∀ H : Hp, Only H → SqL K H a (ns.map V.int) → sp [.ref a] H (fun v _ => v = .bl true) fun _ _ _ => False)
    (hCX : ∀ H e s', CX [] H s₁ (fun _ _ _ => False) e s' → False) :
    codeAny (model P w) callerA (.call (.ref fa) ⟨[.ref a], []⟩) (fun r s' => r = .ok (.ret (.bool true)) ∧ OldK s₁.heap s'.heap ∧ s'.os = s₁.os ∧ AllBare s'.gens) s₁ := by
  have rv := vals_ints hi
  have lenV := hi.length
  -- from an abstract heap in which nothing but the script may be tracked
  have core : ∀ H : Hp, Only H → SqL K H a (ns.map V.int) → HOk P w H s₁.heap → (∀ b, H b ≠ none → b = a) → (H a ≠ none → K.lookup a = none) →
      codeAny (model P w) callerA (.call (.ref fa) ⟨[.ref a], []⟩) (fun r s' => r = .ok (.ret (.bool true)) ∧ OldK s₁.heap s'.heap ∧ s'.os = s₁.os ∧ AllBare s'.gens) s₁ := by
    intro H hO hS hok hA hK
    have base_of : ∀ {b : Addr} {o : Obj}, s₁.heap.get? b = some o → H b = none → (hidT s₁.heap H).get? b = some o := fun e n => hidT_get e n
    have noA : ∀ {b : Addr} {o : Obj} {es : Array DictEntry} {ep : Nat}, s₁.heap.get? b = some o → o.data = .dict es ep → H b = none := fun {b o es ep} e d => by
      cases q : H b with
      | none => rfl
      | some u =>
        have e' : b = a := hA b (by rw [q]; simp)
        subst e'
        rw [ha] at e; cases e
        have d' : Data.seq vs.toArray _ = Data.dict es ep := d
        cases d'
    have nsK : ∀ {b : Addr} {m : Str → Option Value}, s₁.heap.Ns b m → (hidT s₁.heap H).Ns b m := fun {b m} ⟨o, es, ep, e, d, r⟩ => ⟨o, es, ep, base_of e (noA e d), d, r⟩
    have hKb : K.In (hidT s₁.heap H) := fun b o e => base_of (KX b o e) (by
      cases q : H b with
      | none => rfl
      | some u =>
        have e' : b = a := hA b (by rw [q]; simp)
        subst e'
        rw [hK (by rw [q]; simp)] at e; cases e)
    have hM : Mod K mg (hidT s₁.heap H) := ⟨hKb, nsK hns, ⟨mb, nsK hb, hbb⟩, let ⟨mc, h1, h2⟩ := hlim; ⟨mc, nsK h1, h2⟩⟩
    have e0 : Env0 P w K mg (hidT s₁.heap H) callerA [] s₁ H := ⟨rfl, hM, fun b o e => of_hidT e, Nat.le_of_eq (hidT_size _ _), trivial, fun b hb => absurd (show b ∈ ([] : List Addr) from hb) (by simp), hok, .of_eq hg⟩
    refine codeAny_mono ((F _ hKb (nsK hns)).run callerA [] s₁ H ⟨[.ref a], []⟩ [.ref a] [.ref a] _ _ hr e0 (hbind s₁ (.ref a)) (.cons rfl .nil) (hsp H hO hS)) fun r s' h => ?_
    cases r with
    | error e => exact (hCX H e s' h).elim
    | ok fl =>
      cases fl with
      | next => exact False.elim h
      | brk => exact False.elim h
      | cont => exact False.elim h
      | ret u =>
        obtain ⟨v, H', os, bare, un, hok', r', q⟩ := h
        have q' : v = .bl true := q
        subst q'
        obtain rfl : u = Value.bool true := r'
        refine ⟨rfl, OldK.of_keep fun b o e => ?_, os, bare⟩
        cases q : H b with
        | none => exact un.keep b o e q (by intro z; exact absurd (show b ∈ ([] : List Addr) from z) (by simp)) (by simp)
        | some u =>
          rcases hO b with z | ⟨ob, xs, z⟩
          · rw [q] at z; cases z
          · have z2 := un.frzs b ob _ z
            obtain ⟨e1, _⟩ := hok b _ z
            obtain ⟨e2, _⟩ := hok' b _ z2
            rw [e] at e1; cases e1
            exact e2
  cases hk : K.lookup a with
  | some o =>
    -- the script is one of the module's own objects
    have e := KX a o hk
    rw [ha] at e
    cases e
    refine core (fun _ => none) (fun _ => .inl rfl) (.inr ⟨_, vs.toArray, _, hk, rfl, rfl, rfl, by rw [List.size_toArray, lenV]; exact hl, by simpa using rv⟩) (fun b u z => by have z' : (none : Option HO) = some u := z; cases z') (fun b z => absurd rfl z) fun z => absurd rfl z
  | none =>
    refine core (fun b => if b = a then some (.frz { cls := .type "list", data := .seq vs.toArray } (.lst (ns.map V.int))) else none) (fun b => ?_) (.inl (.inr ⟨{ cls := .type "list", data := .seq vs.toArray }, if_pos rfl⟩)) (fun b u z => ?_) (fun b z => ?_) fun _ => hk
    · by_cases hb : b = a
      · exact .inr ⟨_, _, if_pos hb⟩
      · exact .inl (if_neg hb)
    · by_cases hb : b = a
      · have z' := (if_pos hb).symm.trans z
        cases z'
        subst hb
        exact ⟨ha, by rw [List.length_map]; exact hl, vs, _, rv, ha⟩
      · have z' := (if_neg hb).symm.trans z
        cases z'
    · by_cases hb : b = a
      · exact hb
      · exact absurd (if_neg hb) z
end L2

namespace L2
open PySem PySem.Spec PyProof.Rows

abbrev KOf {K : PySem.W.Frag} {h : Heap} (_ : K.In h) : PySem.W.Frag := K

theorem walk_of {l : PySem.W.OpenLaw} {n k : Nat} {q : Program} {loose : List Str} {XP : (Str → Option Value) → Heap → Prop} {YP : World → Heap → Prop} {d : DefRec} {K : Params → PySem.W.Frag} {CX : World → CXT} {sp : World → Sp} {x : Str}
    (hn : l.most = some n) (hn2 : n ≤ sizeLine) (hdf : d.params.defaults = []) (hr : Room k callerA)
    (hY : ∀ (w : World) (h : Heap), YP w h → (K w.params).In h)
    (F : ∀ (w : World) (mg : Str → Option Value) (fa : Addr) (h : Heap), (K w.params).In h → h.Ns mainGlobals mg → mg d.name = some (.ref fa) →
      ∃ fd : FuncData, (∀ (s : Shared) (u : Value), BindsTo s fd ⟨[u], []⟩ [(x, u)]) ∧
        ∀ base : Heap, (K w.params).In base → base.Ns mainGlobals mg → FnOk l.prog w (K w.params) mg base (CX w) k fa fd [x] (sp w))
    (hsp : ∀ (w : World) (H : Hp) (a : Addr) (ns : List Int), ns.length ≤ n → Only H → SqL (K w.params) H a (ns.map V.int) → sp w [.ref a] H (fun v _ => v = .bl true) fun _ _ _ => False)
    (hCX : ∀ (w : World) (H : Hp) (s : Shared) (e : Value) (s' : Shared), CX w [] H s (fun _ _ _ => False) e s' → False) :
    PySem.W.WalkO q loose XP YP l.row.toRowW d [] (fun f vs => PySem.call f vs) := by
  refine Att.attach_call hn hdf fun w s₀ s₁ mg mb fa o pm cd doc a vs ns G Y ho hd hcd hmg hobj hints hlen hg => ?_
  have KX := hY w _ Y
  obtain ⟨fd, hb, hF⟩ := F w mg fa _ KX G.T.g hmg
  exact law_call KX G.T.g G.T.b G.T.builtins G.T.nolimit hg hobj hints (Nat.le_trans hlen hn2) hr hF hb (fun H hO hS => hsp w H a ns hlen hO hS) fun H e s' => hCX w H s₁ e s'
end L2

/- THE LAST THEOREM (shape; LID, My.* are yours):
   My.Adr: a structure of the addresses that your layer names (classes, functions); My.Txt K t: a structure (Prop) of the equations over K;
   My.txt_mk : {K} {implicit addresses ..} (e1 : nsIn K mainGlobals "law" = some (some (.ref f))) (e2 : K.lookup f = some ⟨oc, od, .func (fnOf "law" "law" params body scope dV kV doc pm an cdv ct), sl⟩) (e3 : codeIn K cdv "law" = true) .. : ∃ t, My.Txt K t

set_option maxRecDepth 100000 in
set_option maxHeartbeats 0 in
theorem PySem.Challenge.cw_LID_holds : PySem.Challenge.rw_LID.Holds := by
  w_on; o_law; k_head; (case hw => w_witness2)
  k_fill
  refine L2.walk_of (l := PySem.Challenge.rw_LID) (n := 63) (k := 40) (x := "script") (CX := fun w => ..) (sp := fun _ => My.sp_law) rfl (by decide) rfl ⟨rfl, by decide, by decide⟩ (fun w h Y => PySem.W.kIn_of Y) ?F ?S ?C
  case F =>
    intro w mg fa h KX G hmg
    have T : ∃ t, My.Txt (L2.KOf KX) t := by
      dsimp only [L2.KOf]                          -- K must stand as «<heap const> w.params» for k_is
      refine' My.txt_mk ?e1 ?e2 ?e3 ..
      (case e1 => PySem.W.k_is)                    -- in the order: a name -> its address -> its object -> its parts
      (case e2 => PySem.W.k_is)
      ..
    obtain ⟨t, T⟩ := T
    have e0 := hmg.symm.trans (PySem.W.mg_of KX G T.law)
    cases e0                                       -- fa is the law's own address
    exact ⟨_, fun s u => .of_eq rfl, fun base kb nb => My.law_fn T kb nb⟩     -- if «.of_eq rfl» comes too early: refine' ⟨_, ?b, fun base kb nb => My.law_fn T kb nb⟩; exact fun s u => .of_eq rfl
  case S => exact fun w H a ns hl hO hS => ..
  case C => exact ..
(the tactic k_is has no namespace: write k_is) -/

namespace L2
open PySem PySem.Spec PyProof.Rows

def inClass (s : Stmt) (j : Nat) : Stmt := match s with
  | .ClassDef _ _ _ body _ _ _ _ _ _ _ => body.getD j (.Pass ⟨0, 0, 0, 0⟩)
  | _ => .Pass ⟨0, 0, 0, 0⟩
def defArgs (s : Stmt) : Arguments := match s with
  | .FunctionDef _ a _ _ _ _ _ _ _ _ => a
  | _ => { posonlyargs := [], args := [], vararg := none, kwonlyargs := [], kw_defaults := [], kwarg := none, defaults := [] }
def defBody (s : Stmt) : List Stmt := match s with
  | .FunctionDef _ _ b _ _ _ _ _ _ _ => b
  | _ => []
def defScope (s : Stmt) : Scope := match s with
  | .FunctionDef _ _ _ _ _ _ sc _ _ _ => sc
  | _ => { kind := .function, names := [], isGenerator := false, isCoroutine := false }

abbrev CX0 : CXT := fun _ _ _ _ _ _ => False
abbrev E0 : XK := fun _ _ _ => False
theorem pass0 {X : Cx} : Passes CX0 X E0 := fun _ _ _ _ _ _ _ h => h.elim

structure Fun (K : PySem.W.Frag) (x qual : Str) (st : Stmt) (f : Addr) (fd : FuncData) : Prop where
  ex : ∃ (oc : Value) (od : Option Addr) (kV doc pm : Value) (an : Option Addr) (cdv ct : Value) (osl : Array (Option Value)),
    fd = PySem.W.fnOf x qual (defArgs st) (defBody st) (defScope st) .none kV doc pm an cdv ct ∧ K.lookup f = some ⟨oc, od, .func fd, osl⟩ ∧ PySem.W.codeIn K cdv qual = true
  kp : PySem.W.keepIn K (.ref f) = true
section
variable {P : Program} {w : World} {K : PySem.W.Frag} {mg : Str → Option Value} {base : Heap}
theorem Fun.ok {x qual : Str} {st : Stmt} {f : Addr} {fd : FuncData} {N ps : List Str} {k : Nat} {sp : Sp} (F : Fun K x qual st f fd) (S : FnScope N ps (defScope st)) (len : ∀ vs H Q E, sp vs H Q E → vs.length = ps.length)
    (hbody : ∀ (cdv : Value) (A : Around) (outer : List Env) (s : Shared) (H : Hp) (vs : List V) (Q : VK) (E : XK), Room k (A.deeper (envOfC qual (defScope st) s.heap.objs.size f cdv)) → sp vs H Q E →
      ∃ t, PSs (cxOf CX0 P w K mg base N qual (defScope st) f cdv A outer s H E).nox (defBody st) t ∧ t { nx := fun _ H' => Q .non H', rt := Q } (start N vs) H) : FnOk P w K mg base CX0 (k + 1) f fd ps sp := by
  obtain ⟨oc, od, kV, doc, pm, an, cdv, ct, osl, rfl, lk, hcd⟩ := F.ex
  refine fn_of lk hcd S len fun A outer s H vs Q E hr hsp => ?_
  obtain ⟨t, h, q⟩ := hbody cdv A outer s H vs Q E hr hsp
  exact ⟨t, h.nox, q⟩
theorem Fun.binds {x qual : Str} {st : Stmt} {f : Addr} {fd : FuncData} {ps : List Str} (F : Fun K x qual st f fd)
    (h : ∀ (kV doc pm : Value) (an : Option Addr) (cdv ct : Value) (us : List Value), us.length = ps.length → bindArgs (PySem.W.fnOf x qual (defArgs st) (defBody st) (defScope st) .none kV doc pm an cdv ct) ⟨us, []⟩ = pure (ps.zip us)) : Binds K fd ps [] := by
  obtain ⟨oc, od, kV, doc, pm, an, cdv, ct, osl, rfl, lk, hcd⟩ := F.ex
  exact .all (h kV doc pm an cdv ct)
theorem fun_mk {x qual : Str} {st : Stmt} {f : Addr} {oc : Value} {od an : Option Addr} {osl : Array (Option Value)} {kV doc pm cdv ct : Value} (l : K.lookup f = some ⟨oc, od, .func (PySem.W.fnOf x qual (defArgs st) (defBody st) (defScope st) .none kV doc pm an cdv ct), osl⟩)
    (c : PySem.W.codeIn K cdv qual = true) (k : PySem.W.keepIn K (.ref f) = true) : Fun K x qual st f (PySem.W.fnOf x qual (defArgs st) (defBody st) (defScope st) .none kV doc pm an cdv ct) := ⟨⟨oc, od, kV, doc, pm, an, cdv, ct, osl, rfl, l, c⟩, k⟩
end
section
variable {X : Cx}
theorem pv (i : Nat) {x : Str} {pos : Pos} (hN : X.N[i]? = some x := by rfl) (hv : Vis X.env.scope x := by first | exact Or.inl rfl | exact Or.inr (Or.inl rfl) | exact Or.inr (Or.inr rfl)) (hd : (x == ("__debug__" : Str)) = false := by decide)
    (hcd : (x == ("__classdict__" : Str)) = false := by decide) : PE X (.Name x pos) (tVar i) := pe_var hN hv hd hcd
end

theorem ite2 {c A B : Prop} [Decidable c] (h1 : c → A) (h2 : ¬ c → B) : if c then A else B := by
  by_cases h : c
  · rw [if_pos h]
    exact h1 h
  · rw [if_neg h]
    exact h2 h
def Same (H H' : Hp) : Prop := ∀ b o, H b = some o → H' b = some o
theorem Same.refl (H : Hp) : Same H H := fun _ _ h => h
theorem Same.trans {H H1 H2 : Hp} (a : Same H H1) (b : Same H1 H2) : Same H H2 := fun c o h => b c o (a c o h)
theorem Same.free {H H' : Hp} (e : Same H H') {l : Addr} (h : H' l = Option.none) : H l = Option.none := by
  cases q : H l with
  | none => rfl
  | some o =>
    rw [e l o q] at h
    cases h
theorem Same.seq {K : PySem.W.Frag} {H H' : Hp} {a : Addr} {xs : List V} (e : Same H H') (h : SqL K H a xs) : SqL K H' a xs := by
  rcases h with (h | ⟨o, h⟩) | h
  · exact .inl (.inl (e _ _ h))
  · exact .inl (.inr ⟨o, e _ _ h⟩)
  · exact .inr h

section
variable {κ : Type} [DecidableEq κ]
end
theorem Same.made {H H1 : Hp} {x dx C : Addr} (nx : H x = Option.none) (nd : H dx = Option.none) (k : ∀ b o, (upd (upd H dx (.own x)) x (.ins C dx [])) b = some o → b ≠ x → H1 b = some o) : Same H H1 := fun b o e =>
  k b o (by rw [upd_ne (ne_of_none e nx), upd_ne (ne_of_none e nd)]; exact e) (ne_of_none e nx)
end L2

section
set_option Elab.async false
set_option linter.all false
set_option maxRecDepth 100000
set_option maxHeartbeats 2000000
namespace L2
open PySem PySem.Spec PyProof.Rows
open PySem.W (WData Codec OpenSpec Well WellAll ReadsW ReadsAllW)
mutual
/-- x stands for the datum d, lists and tuples all the way -/
inductive Dw (K : PySem.W.Frag) (H : Hp) : V → WData → Prop
  | non : Dw K H .non .none
  | bl (b : Bool) : Dw K H (.bl b) (.bool b)
  | int (i : Int) : Dw K H (.int i) (.int i)
  | str (x : Str) : Dw K H (.str x) (.str x)
  | byt (b : Array UInt8) : Dw K H (.byt b) (.bytes b.toList)
  | lst {a : Addr} {xs : List V} {ds : List WData} : SqL K H a xs → DwAll K H xs ds → Dw K H (.ref a) (.list ds)
  | tup {a : Addr} {xs : List V} {ds : List WData} : SqT K H a xs → DwAll K H xs ds → Dw K H (.ref a) (.tuple ds)
inductive DwAll (K : PySem.W.Frag) (H : Hp) : List V → List WData → Prop
  | nil : DwAll K H [] []
  | cons {v : V} {vs : List V} {d : WData} {ds : List WData} : Dw K H v d → DwAll K H vs ds → DwAll K H (v :: vs) (d :: ds)
end
section
variable {P : Program} {w : World} {K : PySem.W.Frag} {H : Hp} {h : Heap} {R : PySem.W.WRecords} {cl : Str → Option Addr}
theorem sqL_at {a : Addr} {xs : List V} (hok : HOk P w H h) (KX : K.In h) (q : SqL K H a xs) : ∃ (its : List Value) (o : Obj) (n : Nat), Vals xs its ∧ h.get? a = some o ∧ o.cls = .type "list" ∧ o.data = .seq its.toArray n := by
  rcases q with q | ⟨o, its, n, e, hc, _, hd, _, hv⟩
  · obtain ⟨_, its, n, hv, e⟩ := (show ObjOk P w H h a (.lst xs) from q.ok hok)
    exact ⟨its, _, n, hv, e, rfl, rfl⟩
  · exact ⟨its.toList, o, n, hv, KX _ _ e, hc, by simp [hd]⟩
theorem sqT_at {a : Addr} {xs : List V} (hok : HOk P w H h) (KX : K.In h) (q : SqT K H a xs) : ∃ (its : List Value) (o : Obj) (n : Nat), Vals xs its ∧ h.get? a = some o ∧ o.cls = .type "tuple" ∧ o.data = .seq its.toArray n := by
  rcases q with q | ⟨o, its, n, e, hc, hd, _, hv⟩
  · obtain ⟨_, its, hv, o, e, hc, n, hd⟩ := (show ObjOk P w H h a (.tup xs) from q.ok hok)
    exact ⟨its, o, n, hv, e, hc, hd⟩
  · exact ⟨its.toList, o, n, hv, KX _ _ e, hc, by simp [hd]⟩
mutual
theorem Dw.reads (hok : HOk P w H h) (KX : K.In h) : ∀ (d : WData) (v : V) (u : Value), Dw K H v d → RelV v u → ∃ as, ReadsW R cl h u d as
  | .none, _, _, x, r => by
    cases x
    cases r
    exact ⟨_, ReadsW.none⟩
  | .bool b, _, _, x, r => by
    cases x
    cases r
    exact ⟨_, ReadsW.bool b⟩
  | .int i, _, _, x, r => by
    cases x
    obtain ⟨t, rfl⟩ := r
    exact ⟨_, ReadsW.int i t⟩
  | .str s, _, _, x, r => by
    cases x
    obtain ⟨t, rfl⟩ := r
    exact ⟨_, ReadsW.str s t⟩
  | .bytes b, _, _, x, r => by
    cases x
    obtain ⟨t, rfl⟩ := r
    exact ⟨_, ReadsW.bytes _ t⟩
  | .list ds, _, _, x, r => by
    cases x with
    | lst hs ha =>
      cases r
      obtain ⟨its, o, n, rv, ho, hc, hd⟩ := sqL_at hok KX hs
      obtain ⟨as, hr⟩ := Dw.readsAll hok KX ds _ its ha rv
      exact ⟨_, ReadsW.list ho hc hd hr⟩
  | .tuple ds, _, _, x, r => by
    cases x with
    | tup hs ha =>
      cases r
      obtain ⟨its, o, n, rv, ho, hc, hd⟩ := sqT_at hok KX hs
      obtain ⟨as, hr⟩ := Dw.readsAll hok KX ds _ its ha rv
      exact ⟨_, ReadsW.tuple ho hc hd hr⟩
  | .float _, _, _, x, _ => by cases x
  | .dict _, _, _, x, _ => by cases x
  | .bytearray _, _, _, x, _ => by cases x
  | .set _, _, _, x, _ => by cases x
  | .frozenset _, _, _, x, _ => by cases x
  | .obj _ _, _, _, x, _ => by cases x
theorem Dw.readsAll (hok : HOk P w H h) (KX : K.In h) : ∀ (ds : List WData) (vs : List V) (us : List Value), DwAll K H vs ds → Vals vs us → ∃ as, ReadsAllW R cl h us ds as
  | [], _, _, x, r => by
    cases x
    cases r
    exact ⟨_, ReadsAllW.nil⟩
  | d :: ds, _, _, x, r => by
    cases x with
    | cons h1 h2 =>
      cases r with
      | cons r1 r2 =>
        obtain ⟨as, q1⟩ := Dw.reads hok KX d _ _ h1 r1
        obtain ⟨bs, q2⟩ := Dw.readsAll hok KX ds _ _ h2 r2
        exact ⟨_, ReadsAllW.cons q1 q2⟩
end
end
mutual
/-- data that a codec tells -/
def plW : WData → Bool
  | .none => true
  | .bool _ => true
  | .int _ => true
  | .str _ => true
  | .bytes _ => true
  | .list xs => plWs xs
  | .tuple xs => plWs xs
  | _ => false
def plWs : List WData → Bool
  | [] => true
  | x :: r => plW x && plWs r
end
theorem plWs_map {α : Type} {f : α → WData} (h : ∀ a, plW (f a) = true) : ∀ l : List α, plWs (l.map f) = true
  | [] => rfl
  | x :: r => by
    show (plW (f x) && plWs (r.map f)) = true
    rw [h x, plWs_map h r] <;> rfl
theorem pl_enc : ∀ (c : Codec) (a : c.denote), plW (c.enc a) = true
  | .unit, _ => rfl
  | .bool, _ => rfl
  | .int _ _, _ => rfl
  | .nat _ _, _ => rfl
  | .u8, _ => rfl
  | .bytes _ _, _ => rfl
  | .text _ _ _ _, _ => rfl
  | .list _ _ c, a => plWs_map (fun x => pl_enc c x) a
  | .pair c d, a => by
    show (plW (c.enc a.1) && (plW (d.enc a.2) && true)) = true
    rw [pl_enc c a.1, pl_enc d a.2] <;> rfl
  | .triple c d e, a => by
    show (plW (c.enc a.1) && (plW (d.enc a.2.1) && (plW (e.enc a.2.2) && true))) = true
    rw [pl_enc c a.1, pl_enc d a.2.1, pl_enc e a.2.2] <;> rfl
  | .option c, none => rfl
  | .option c, some x => pl_enc c x
theorem pl_encAll : ∀ (cs : List Codec) (a : Codec.denoteAll cs), plWs (Codec.encAll cs a) = true
  | [], _ => rfl
  | c :: cs, a => by
    show (plW (c.enc a.1) && plWs (Codec.encAll cs a.2)) = true
    rw [pl_enc c a.1, pl_encAll cs a.2] <;> rfl
theorem weight_mem : ∀ {xs : List WData} {d : WData}, d ∈ xs → d.weight ≤ WData.weightAll xs
  | [], d, h => absurd h (by simp)
  | x :: r, d, h => by
    show d.weight ≤ x.weight + 1 + WData.weightAll r
    rcases List.mem_cons.mp h with e | m
    · rw [e]
      omega
    · have z := weight_mem m
      omega
def toV : Value → V
  | .none => .non
  | .bool b => .bl b
  | .int i _ => .int i
  | .str x _ => .str x
  | .bytes b _ => .byt b
  | .ref a => .ref a
  | _ => .non
def OkU (A : List Addr) : Value → Prop
  | .none => True
  | .bool _ => True
  | .int _ _ => True
  | .str _ _ => True
  | .bytes _ _ => True
  | .ref a => a ∈ A
  | _ => False
theorem OkU.mono {A B : List Addr} (h : ∀ a ∈ A, a ∈ B) : ∀ {u : Value}, OkU A u → OkU B u := fun {u} x => by
  cases u with
  | ref a => exact h a x
  | none => trivial
  | bool b => trivial
  | int i t => trivial
  | str s t => trivial
  | bytes b t => trivial
  | _ => exact False.elim x
theorem relV_toV {A : List Addr} {u : Value} (x : OkU A u) : RelV (toV u) u := by
  cases u with
  | ref a => rfl
  | none => rfl
  | bool b => rfl
  | int i t => exact ⟨t, rfl⟩
  | str s t => exact ⟨t, rfl⟩
  | bytes b t => exact ⟨t, rfl⟩
  | _ => exact False.elim x
theorem vals_toV {A : List Addr} : ∀ {vs : List Value}, (∀ u ∈ vs, OkU A u) → Vals (vs.map toV) vs
  | [], _ => .nil
  | u :: r, h => .cons (relV_toV (h u (List.mem_cons_self ..))) (vals_toV fun x hx => h x (List.mem_cons_of_mem _ hx))
def ArgOb (h : Heap) (A : List Addr) (a : Addr) : Prop := ∃ vs : List Value, vs.length ≤ sizeLine ∧ (∀ u ∈ vs, OkU A u) ∧
  (h.get? a = some { cls := .type "list", data := .seq vs.toArray } ∨ h.get? a = some { cls := .type "tuple", data := .seq vs.toArray })
theorem ArgOb.mono {h : Heap} {A B : List Addr} {a : Addr} (k : ∀ a ∈ A, a ∈ B) (x : ArgOb h A a) : ArgOb h B a := by
  obtain ⟨vs, h1, h2, h3⟩ := x
  exact ⟨vs, h1, fun u hu => (h2 u hu).mono k, h3⟩
theorem wellAll_len {P : Params} {h : Heap} : ∀ {vs : List Value} {ds : List WData}, WellAll P h vs ds → vs.length = ds.length
  | _, _, .nil => rfl
  | _, _, .cons _ b => by
    show _ + 1 = _ + 1
    rw [wellAll_len b]
theorem well_list {P : Params} {h : Heap} {v : Value} {ds : List WData} (x : Well P h v (.list ds)) : ∃ (a : Addr) (vs : List Value), v = .ref a ∧ h.get? a = some { cls := .type "list", data := .seq vs.toArray } ∧ WellAll P h vs ds := by
  cases x with
  | list ho hall => exact ⟨_, _, rfl, ho, hall⟩
theorem well_tuple {P : Params} {h : Heap} {v : Value} {ds : List WData} (x : Well P h v (.tuple ds)) : ∃ (a : Addr) (vs : List Value), v = .ref a ∧ h.get? a = some { cls := .type "tuple", data := .seq vs.toArray } ∧ WellAll P h vs ds := by
  cases x with
  | tuple ho hall => exact ⟨_, _, rfl, ho, hall⟩
theorem well_cons {P : Params} {h : Heap} {us : List Value} {d : WData} {ds : List WData} (x : WellAll P h us (d :: ds)) : ∃ (v : Value) (vs : List Value), us = v :: vs ∧ Well P h v d ∧ WellAll P h vs ds := by
  cases x with
  | cons a b => exact ⟨_, _, rfl, a, b⟩
theorem line_of {n : Nat} (h : n ≤ 1048576) : n ≤ sizeLine := Nat.le_trans h (by decide)
section
variable {P : Params} {h : Heap}
mutual
theorem area_one : ∀ (d : WData) (v : Value), Well P h v d → plW d = true → d.weight ≤ 1048576 → ∃ A : List Addr, OkU A v ∧ ∀ a ∈ A, ArgOb h A a
  | .none, _, x, _, _ => by
    cases x
    exact ⟨[], trivial, fun a m => absurd m (by simp)⟩
  | .bool b, _, x, _, _ => by
    cases x
    exact ⟨[], trivial, fun a m => absurd m (by simp)⟩
  | .int i, _, x, _, _ => by
    cases x
    exact ⟨[], trivial, fun a m => absurd m (by simp)⟩
  | .str s, _, x, _, _ => by
    cases x
    exact ⟨[], trivial, fun a m => absurd m (by simp)⟩
  | .bytes b, _, x, _, _ => by
    cases x
    exact ⟨[], trivial, fun a m => absurd m (by simp)⟩
  | .list ds, _, x, p, z => by
    obtain ⟨a, vs, rfl, ho, hall⟩ := well_list x
    have z2 : WData.weightAll ds ≤ 1048576 := z
    obtain ⟨A, h1, h2⟩ := area_all ds _ hall p fun d hd => Nat.le_trans (weight_mem hd) z2
    have k : ∀ b ∈ A, b ∈ a :: A := fun b hb => List.mem_cons_of_mem _ hb
    refine ⟨a :: A, List.mem_cons_self .., fun b hb => ?_⟩
    rcases List.mem_cons.mp hb with e | m
    · rw [e]
      exact ⟨vs, line_of (by rw [wellAll_len hall]; exact Nat.le_trans (PySem.W.length_le_weightAllW ds) z2), fun u hu => (h1 u hu).mono k, .inl ho⟩
    · exact (h2 b m).mono k
  | .tuple ds, _, x, p, z => by
    obtain ⟨a, vs, rfl, ho, hall⟩ := well_tuple x
    have z2 : WData.weightAll ds ≤ 1048576 := z
    obtain ⟨A, h1, h2⟩ := area_all ds _ hall p fun d hd => Nat.le_trans (weight_mem hd) z2
    have k : ∀ b ∈ A, b ∈ a :: A := fun b hb => List.mem_cons_of_mem _ hb
    refine ⟨a :: A, List.mem_cons_self .., fun b hb => ?_⟩
    rcases List.mem_cons.mp hb with e | m
    · rw [e]
      exact ⟨vs, line_of (by rw [wellAll_len hall]; exact Nat.le_trans (PySem.W.length_le_weightAllW ds) z2), fun u hu => (h1 u hu).mono k, .inr ho⟩
    · exact (h2 b m).mono k
  | .float _, _, _, p, _ => Bool.noConfusion (show false = true from p)
  | .dict _, _, _, p, _ => Bool.noConfusion (show false = true from p)
  | .bytearray _, _, _, p, _ => Bool.noConfusion (show false = true from p)
  | .set _, _, _, p, _ => Bool.noConfusion (show false = true from p)
  | .frozenset _, _, _, p, _ => Bool.noConfusion (show false = true from p)
  | .obj _ _, _, _, p, _ => Bool.noConfusion (show false = true from p)
theorem area_all : ∀ (ds : List WData) (vs : List Value), WellAll P h vs ds → plWs ds = true → (∀ d ∈ ds, d.weight ≤ 1048576) → ∃ A : List Addr, (∀ u ∈ vs, OkU A u) ∧ ∀ a ∈ A, ArgOb h A a
  | [], _, x, _, _ => by
    cases x
    exact ⟨[], fun u m => absurd m (by simp), fun a m => absurd m (by simp)⟩
  | d :: ds, _, x, p, z => by
    obtain ⟨v, vs, rfl, x1, x2⟩ := well_cons x
    have q : plW d = true ∧ plWs ds = true := Bool.and_eq_true_iff.mp p
    obtain ⟨A, a1, a2⟩ := area_one d v x1 q.1 (z d (List.mem_cons_self ..))
    obtain ⟨B, b1, b2⟩ := area_all ds vs x2 q.2 fun e he => z e (List.mem_cons_of_mem _ he)
    have kA : ∀ b ∈ A, b ∈ A ++ B := fun b hb => List.mem_append.mpr (.inl hb)
    have kB : ∀ b ∈ B, b ∈ A ++ B := fun b hb => List.mem_append.mpr (.inr hb)
    refine ⟨A ++ B, fun u hu => ?_, fun b hb => ?_⟩
    · rcases List.mem_cons.mp hu with e | m
      · rw [e]
        exact a1.mono kA
      · exact (b1 u m).mono kB
    · rcases List.mem_append.mp hb with m | m
      · exact (a2 b m).mono kA
      · exact (b2 b m).mono kB
end
end
def hoOf (o : Obj) : Option HO := match o.data with
  | .seq vs _ => if (o.cls == Value.type "list") = true then some (.frz o (.lst (vs.toList.map toV))) else some (.frz o (.tup (vs.toList.map toV)))
  | _ => none
def argH (K : PySem.W.Frag) (h : Heap) (A : List Addr) : Hp := fun b => if b ∈ A then (if (K.lookup b).isNone = true then (h.get? b).bind hoOf else none) else none
def OnlyF (H : Hp) : Prop := ∀ b, H b = none ∨ ∃ o u, H b = some (.frz o u)
theorem hoOf_lst (vs : List Value) : hoOf { cls := .type "list", data := .seq vs.toArray } = some (.frz { cls := .type "list", data := .seq vs.toArray } (.lst (vs.map toV))) := by
  show (if (Value.type "list" == Value.type "list") = true then some (HO.frz { cls := .type "list", data := .seq vs.toArray } (.lst (vs.toArray.toList.map toV))) else some (HO.frz { cls := .type "list", data := .seq vs.toArray } (.tup (vs.toArray.toList.map toV)))) = _
  rw [if_pos (beq_self_eq_true _)]
theorem hoOf_tup (vs : List Value) : hoOf { cls := .type "tuple", data := .seq vs.toArray } = some (.frz { cls := .type "tuple", data := .seq vs.toArray } (.tup (vs.map toV))) := by
  show (if (Value.type "tuple" == Value.type "list") = true then some (HO.frz { cls := .type "tuple", data := .seq vs.toArray } (.lst (vs.toArray.toList.map toV))) else some (HO.frz { cls := .type "tuple", data := .seq vs.toArray } (.tup (vs.toArray.toList.map toV)))) = _
  rw [if_neg (by decide)]
section
variable {P : Program} {w : World} {K : PySem.W.Frag} {h : Heap} {A : List Addr}
theorem argH_at {b : Addr} {o : Obj} (hb : b ∈ A) (hk : K.lookup b = none) (e : h.get? b = some o) : argH K h A b = hoOf o := by
  unfold argH
  rw [if_pos hb, hk, if_pos (show (none : Option Obj).isNone = true from rfl), e] <;> rfl
theorem of_argH {b : Addr} {u : HO} (q : argH K h A b = some u) : b ∈ A ∧ K.lookup b = none := by
  unfold argH at q
  by_cases hb : b ∈ A
  · rw [if_pos hb] at q
    cases hk : K.lookup b with
    | none => exact ⟨hb, rfl⟩
    | some o =>
      rw [hk, if_neg (by simp)] at q
      cases q
  · rw [if_neg hb] at q
    cases q
theorem argH_is (ar : ∀ a ∈ A, ArgOb h A a) {b : Addr} {u : HO} (q : argH K h A b = some u) : K.lookup b = none ∧ ∃ vs : List Value, vs.length ≤ sizeLine ∧ (∀ u ∈ vs, OkU A u) ∧
    ((h.get? b = some { cls := .type "list", data := .seq vs.toArray } ∧ u = .frz { cls := .type "list", data := .seq vs.toArray } (.lst (vs.map toV))) ∨
     (h.get? b = some { cls := .type "tuple", data := .seq vs.toArray } ∧ u = .frz { cls := .type "tuple", data := .seq vs.toArray } (.tup (vs.map toV)))) := by
  obtain ⟨hb, hk⟩ := of_argH q
  obtain ⟨vs, h1, h2, h3⟩ := ar b hb
  refine ⟨hk, vs, h1, h2, ?_⟩
  rcases h3 with e | e
  · rw [argH_at hb hk e, hoOf_lst] at q
    exact .inl ⟨e, (Option.some.inj q).symm⟩
  · rw [argH_at hb hk e, hoOf_tup] at q
    exact .inr ⟨e, (Option.some.inj q).symm⟩
theorem argH_only (ar : ∀ a ∈ A, ArgOb h A a) : OnlyF (argH K h A) := fun b => by
  cases q : argH K h A b with
  | none => exact .inl rfl
  | some u =>
    obtain ⟨_, vs, _, _, ⟨_, e⟩ | ⟨_, e⟩⟩ := argH_is ar q
    · exact .inr ⟨_, _, by rw [e]⟩
    · exact .inr ⟨_, _, by rw [e]⟩
theorem argH_ok (ar : ∀ a ∈ A, ArgOb h A a) : HOk P w (argH K h A) h := fun b u q => by
  obtain ⟨_, vs, h1, h2, ⟨e, rfl⟩ | ⟨e, rfl⟩⟩ := argH_is ar q
  · exact ⟨e, by rw [List.length_map]; exact h1, vs, _, vals_toV h2, e⟩
  · exact ⟨e, by rw [List.length_map]; exact h1, vs, vals_toV h2, _, e, rfl, _, rfl⟩
theorem seq_inj {c c' : Value} {vs us : List Value} (e : (some { cls := c, data := .seq vs.toArray } : Option Obj) = some { cls := c', data := .seq us.toArray }) : c = c' ∧ vs = us := by
  have e1 := Option.some.inj e
  have e2 : c = c' := congrArg Obj.cls e1
  have e3 : Data.seq vs.toArray = Data.seq us.toArray := congrArg Obj.data e1
  injection e3 with e4
  refine ⟨e2, ?_⟩
  have e5 := congrArg Array.toList e4
  simpa using e5
theorem argL (KX : K.In h) (ar : ∀ a ∈ A, ArgOb h A a) {a : Addr} {vs : List Value} (ha : a ∈ A) (e : h.get? a = some { cls := .type "list", data := .seq vs.toArray }) : (∀ u ∈ vs, OkU A u) ∧ SqL K (argH K h A) a (vs.map toV) := by
  obtain ⟨us, h1, h2, h3⟩ := ar a ha
  have hu : us = vs := by
    rcases h3 with q | q
    · rw [e] at q
      exact (seq_inj q).2.symm
    · rw [e] at q
      exact absurd (Value.type.inj (seq_inj q).1) (by decide)
  subst hu
  refine ⟨h2, ?_⟩
  cases hk : K.lookup a with
  | none => exact .inl (.inr ⟨_, by rw [argH_at ha hk e, hoOf_lst]⟩)
  | some o =>
    have e2 := KX a o hk
    rw [e] at e2
    obtain rfl := Option.some.inj e2
    exact .inr ⟨_, us.toArray, _, hk, rfl, rfl, rfl, by rw [List.size_toArray]; exact h1, by simpa using vals_toV h2⟩
theorem argT (KX : K.In h) (ar : ∀ a ∈ A, ArgOb h A a) {a : Addr} {vs : List Value} (ha : a ∈ A) (e : h.get? a = some { cls := .type "tuple", data := .seq vs.toArray }) : (∀ u ∈ vs, OkU A u) ∧ SqT K (argH K h A) a (vs.map toV) := by
  obtain ⟨us, h1, h2, h3⟩ := ar a ha
  have hu : us = vs := by
    rcases h3 with q | q
    · rw [e] at q
      exact absurd (Value.type.inj (seq_inj q).1) (by decide)
    · rw [e] at q
      exact (seq_inj q).2.symm
  subst hu
  refine ⟨h2, ?_⟩
  cases hk : K.lookup a with
  | none => exact .inl (.inr ⟨_, by rw [argH_at ha hk e, hoOf_tup]⟩)
  | some o =>
    have e2 := KX a o hk
    rw [e] at e2
    obtain rfl := Option.some.inj e2
    exact .inr ⟨_, us.toArray, _, hk, rfl, rfl, by rw [List.size_toArray]; exact h1, by simpa using vals_toV h2⟩
mutual
theorem dw_one {Pm : Params} (KX : K.In h) (ar : ∀ a ∈ A, ArgOb h A a) : ∀ (d : WData) (v : Value), Well Pm h v d → plW d = true → OkU A v → Dw K (argH K h A) (toV v) d
  | .none, _, x, _, _ => by
    cases x
    exact .non
  | .bool b, _, x, _, _ => by
    cases x
    exact .bl b
  | .int i, _, x, _, _ => by
    cases x
    exact .int i
  | .str s, _, x, _, _ => by
    cases x
    exact .str s
  | .bytes b, _, x, _, _ => by
    cases x
    have z := Dw.byt (K := K) (H := argH K h A) b.toArray
    exact z
  | .list ds, _, x, p, hu => by
    obtain ⟨a, vs, rfl, ho, hall⟩ := well_list x
    obtain ⟨h2, hs⟩ := argL KX ar hu ho
    exact .lst hs (dw_all KX ar ds _ hall p h2)
  | .tuple ds, _, x, p, hu => by
    obtain ⟨a, vs, rfl, ho, hall⟩ := well_tuple x
    obtain ⟨h2, hs⟩ := argT KX ar hu ho
    exact .tup hs (dw_all KX ar ds _ hall p h2)
  | .float _, _, _, p, _ => Bool.noConfusion (show false = true from p)
  | .dict _, _, _, p, _ => Bool.noConfusion (show false = true from p)
  | .bytearray _, _, _, p, _ => Bool.noConfusion (show false = true from p)
  | .set _, _, _, p, _ => Bool.noConfusion (show false = true from p)
  | .frozenset _, _, _, p, _ => Bool.noConfusion (show false = true from p)
  | .obj _ _, _, _, p, _ => Bool.noConfusion (show false = true from p)
theorem dw_all {Pm : Params} (KX : K.In h) (ar : ∀ a ∈ A, ArgOb h A a) : ∀ (ds : List WData) (vs : List Value), WellAll Pm h vs ds → plWs ds = true → (∀ u ∈ vs, OkU A u) → DwAll K (argH K h A) (vs.map toV) ds
  | [], _, x, _, _ => by
    cases x
    exact .nil
  | d :: ds, _, x, p, hu => by
    obtain ⟨v, vs, rfl, x1, x2⟩ := well_cons x
    have q : plW d = true ∧ plWs ds = true := Bool.and_eq_true_iff.mp p
    exact .cons (dw_one KX ar d v x1 q.1 (hu _ (List.mem_cons_self ..))) (dw_all KX ar ds vs x2 q.2 fun u m => hu u (List.mem_cons_of_mem _ m))
end
end
theorem spec_call {P : Program} {w : World} {K : PySem.W.Frag} {mg mb : Str → Option Value} {CX : CXT} {k : Nat} {fa : Addr} {fd : FuncData} {ps : List Str} {sp : Sp} {s₁ : Shared} {vals : List Value} {ds : List WData} {R : PySem.W.WRecords} {cl : Str → Option Addr} {d0 : WData}
    (KX : K.In s₁.heap) (hns : s₁.heap.Ns mainGlobals mg) (hb : s₁.heap.Ns builtinsNs mb) (hbb : ∀ x : Str, x ≠ "__name__" → mb x = bootBuiltins x) (hlim : s₁.heap.NoLimit) (hg : s₁.gens = #[])
    (hwl : WellAll w.params s₁.heap vals ds) (hpl : plWs ds = true) (hwt : ∀ d ∈ ds, d.weight ≤ 1048576) (hr : Room k callerA)
    (F : ∀ base : Heap, K.In base → base.Ns mainGlobals mg → FnOk P w K mg base CX k fa fd ps sp) (hbind : ∀ (s : Shared) (us : List Value), us.length = ps.length → BindsTo s fd ⟨us, []⟩ (ps.zip us)) (hlen : ds.length = ps.length)
    (hsp : ∀ (H : Hp) (xs : List V), OnlyF H → DwAll K H xs ds → sp xs H (fun v H' => Dw K H' v d0) fun _ _ _ => False)
    (hCX : ∀ H e s', CX [] H s₁ (fun _ _ _ => False) e s' → False) :
    codeAny (model P w) callerA (.call (.ref fa) ⟨vals, []⟩) (fun r s' => ∃ u as, r = .ok (.ret u) ∧ ReadsW R cl s'.heap u d0 as ∧ OldK s₁.heap s'.heap ∧ s'.os = s₁.os ∧ AllBare s'.gens) s₁ := by
  obtain ⟨A, ho, ar⟩ := area_all ds vals hwl hpl hwt
  have hO : OnlyF (argH K s₁.heap A) := argH_only ar
  have hok : HOk P w (argH K s₁.heap A) s₁.heap := argH_ok ar
  have hS := dw_all KX ar ds vals hwl hpl ho
  have hV := vals_toV ho
  have hK : ∀ b u, argH K s₁.heap A b = some u → K.lookup b = none := fun b u q => (argH_is ar q).1
  have noA : ∀ {b : Addr} {o : Obj} {es : Array DictEntry} {ep : Nat}, s₁.heap.get? b = some o → o.data = .dict es ep → argH K s₁.heap A b = none := fun {b o es ep} e d => by
    cases q : argH K s₁.heap A b with
    | none => rfl
    | some u =>
      obtain ⟨_, vs, _, _, ⟨e2, _⟩ | ⟨e2, _⟩⟩ := argH_is ar q
      · rw [e2] at e
        cases e
        have d' : Data.seq vs.toArray _ = Data.dict es ep := d
        cases d'
      · rw [e2] at e
        cases e
        have d' : Data.seq vs.toArray _ = Data.dict es ep := d
        cases d'
  generalize argH K s₁.heap A = H at hO hok hS hK noA
  have base_of : ∀ {b : Addr} {o : Obj}, s₁.heap.get? b = some o → H b = none → (hidT s₁.heap H).get? b = some o := fun e n => hidT_get e n
  have nsK : ∀ {b : Addr} {m : Str → Option Value}, s₁.heap.Ns b m → (hidT s₁.heap H).Ns b m := fun {b m} ⟨o, es, ep, e, d, r⟩ => ⟨o, es, ep, base_of e (noA e d), d, r⟩
  have nK : ∀ b o, K.lookup b = some o → H b = none := fun b o e => by
    cases q : H b with
    | none => rfl
    | some u =>
      rw [hK b u q] at e
      cases e
  have hKb : K.In (hidT s₁.heap H) := fun b o e => base_of (KX b o e) (nK b o e)
  have hM : Mod K mg (hidT s₁.heap H) := ⟨hKb, nsK hns, ⟨mb, nsK hb, hbb⟩, let ⟨mc, h1, h2⟩ := hlim; ⟨mc, nsK h1, h2⟩⟩
  have e0 : Env0 P w K mg (hidT s₁.heap H) callerA [] s₁ H := ⟨rfl, hM, fun b o e => of_hidT e, Nat.le_of_eq (hidT_size _ _), trivial, fun b hb => absurd (show b ∈ ([] : List Addr) from hb) (by simp), hok, .of_eq hg⟩
  have hl : vals.length = ps.length := by rw [wellAll_len hwl]; exact hlen
  refine codeAny_mono ((F _ hKb (nsK hns)).run callerA [] s₁ H ⟨vals, []⟩ vals (vals.map toV) _ _ hr e0 (hbind s₁ vals hl) hV (hsp H _ hO hS)) fun r s' x => ?_
  cases r with
  | error e => exact (hCX H e s' x).elim
  | ok fl =>
    cases fl with
    | next => exact False.elim x
    | brk => exact False.elim x
    | cont => exact False.elim x
    | ret u =>
      obtain ⟨v, H', os, bare, un, hok', r', q⟩ := x
      have kept : ∀ b o, s₁.heap.get? b = some o → s'.heap.get? b = some o := fun b o e => by
        cases q2 : H b with
        | none => exact un.keep b o e q2 (by intro z; exact absurd (show b ∈ ([] : List Addr) from z) (by simp)) (by simp)
        | some u2 =>
          rcases hO b with z | ⟨ob, u3, z⟩
          · rw [q2] at z
            cases z
          · have z2 := un.frzs b ob _ z
            obtain ⟨e1, _⟩ := hok b _ z
            obtain ⟨e2, _⟩ := hok' b _ z2
            rw [e] at e1
            cases e1
            exact e2
      have KX' : K.In s'.heap := fun b o e => kept b o (KX b o e)
      obtain ⟨as, hrd⟩ := Dw.reads (R := R) (cl := cl) hok' KX' d0 v u q r'
      exact ⟨u, as, rfl, hrd, OldK.of_keep kept, os, bare⟩
theorem layable_weight {ds : List WData} (h : WData.layableAll ds = true) : ∀ d ∈ ds, d.weight ≤ 1048576 := fun d hd =>
  (PySem.W.layableW_iff.mp (List.all_eq_true.mp h d hd)).2.2
theorem encAll_len : ∀ (cs : List Codec) (a : Codec.denoteAll cs), (Codec.encAll cs a).length = cs.length
  | [], _ => rfl
  | c :: cs, a => by
    show (Codec.encAll cs a.2).length + 1 = cs.length + 1
    rw [encAll_len cs a.2]
theorem walk_spec {r : OpenSpec} {k : Nat} {q : Program} {loose : List Str} {XP : (Str → Option Value) → Heap → Prop} {YP : World → Heap → Prop} {d : DefRec} {K : Params → PySem.W.Frag} {CX : World → CXT} {ps : List Str} {sp : World → Sp}
    (hwell : r.wellSaid = true) (hdf : d.params.defaults = []) (hlen : r.args.length = ps.length) (hr : Room k callerA)
    (hY : ∀ (w : World) (h : Heap), YP w h → (K w.params).In h)
    (F : ∀ (w : World) (mg : Str → Option Value) (fa : Addr) (h : Heap), YP w h → (K w.params).In h → h.Ns mainGlobals mg → mg d.name = some (.ref fa) →
      ∃ fd : FuncData, (∀ (s : Shared) (us : List Value), us.length = ps.length → BindsTo s fd ⟨us, []⟩ (ps.zip us)) ∧
        ∀ base : Heap, (K w.params).In base → base.Ns mainGlobals mg → FnOk r.prog w (K w.params) mg base (CX w) k fa fd ps (sp w))
    (hsp : ∀ (w : World) (H : Hp) (xs : List V) (a : Codec.denoteAll r.args), OnlyF H → Codec.withinAll r.args a = true → Codec.app r.args r.asked a = true → DwAll (K w.params) H xs (Codec.encAll r.args a) →
      sp w xs H (fun v H' => Dw (K w.params) H' v (r.ret.enc (Codec.app r.args r.f a))) fun _ _ _ => False)
    (hCX : ∀ (w : World) (H : Hp) (s : Shared) (e : Value) (s' : Shared), CX w [] H s (fun _ _ _ => False) e s' → False) :
    PySem.W.WalkOS q loose XP YP r d [] (fun f vs => PySem.call f vs) := by
  intro w s_0 s₁ mg mb G Y fa o pm cd doc dV kV ho hd hcd hD hmg hg args vals as hpre hlay hrd hwl hlo
  obtain ⟨a, e1, e2⟩ := PySem.W.os_pre_some hpre
  obtain ⟨e3, hwi⟩ := Codec.encAll_of_decAll r.args args a e1
  subst e3
  have KX := hY w _ Y
  obtain ⟨fd, hb, hF⟩ := F w mg fa _ Y KX G.T.g hmg
  refine PySem.W.enter_call (codeAny_mono (spec_call (R := []) (cl := classAt s_0.heap) (d0 := r.ret.enc (Codec.app r.args r.f a)) KX G.T.g G.T.b G.T.builtins G.T.nolimit hg hwl (pl_encAll _ _) (layable_weight hlay) hr hF hb (by rw [encAll_len]; exact hlen)
    (fun H xs hO hS => hsp w H xs a hO hwi e2 hS) fun H e s' => hCX w H s₁ e s') fun r' s' hq => ?_)
  obtain ⟨u, as', rfl, h1, h2, h3, h4⟩ := hq
  exact ⟨.inl ⟨u, _, as', rfl, fun _ => rfl, h1, (OpenSpec.post_iff hwell hwi _ _).mpr rfl, fun z => Bool.noConfusion (show false = true from z)⟩, h2, h3, h4⟩
theorem walk_specK {r : OpenSpec} {k : Nat} {q : Program} {loose : List Str} {XP : (Str → Option Value) → Heap → Prop} {YP : World → Heap → Prop} {d : DefRec} {K : Params → PySem.W.Frag} {CX : CXT} {ps : List Str} {sp : PySem.W.Frag → Sp}
    (hwell : r.wellSaid = true) (hdf : d.params.defaults = []) (hlen : r.args.length = ps.length) (hr : Room k callerA)
    (hY : ∀ (w : World) (h : Heap), YP w h → (K w.params).In h)
    (F : ∀ (w : World) (mg : Str → Option Value) (fa : Addr) (h : Heap), YP w h → (K w.params).In h → h.Ns mainGlobals mg → mg d.name = some (.ref fa) →
      ∃ fd : FuncData, (∀ (s : Shared) (us : List Value), us.length = ps.length → BindsTo s fd ⟨us, []⟩ (ps.zip us)) ∧
        ∀ base : Heap, (K w.params).In base → base.Ns mainGlobals mg → FnOk r.prog w (K w.params) mg base CX k fa fd ps (sp (K w.params)))
    (hsp : ∀ (K : PySem.W.Frag) (H : Hp) (xs : List V) (a : Codec.denoteAll r.args), OnlyF H → Codec.withinAll r.args a = true → Codec.app r.args r.asked a = true → DwAll K H xs (Codec.encAll r.args a) →
      sp K xs H (fun v H' => Dw K H' v (r.ret.enc (Codec.app r.args r.f a))) fun _ _ _ => False)
    (hCX : ∀ (H : Hp) (s : Shared) (e : Value) (s' : Shared), CX [] H s (fun _ _ _ => False) e s' → False) :
    PySem.W.WalkOS q loose XP YP r d [] (fun f vs => PySem.call f vs) :=
  walk_spec (K := K) (CX := fun _ => CX) (sp := fun w => sp (K w.params)) hwell hdf hlen hr hY F (fun w H xs a h1 h2 h3 h4 => hsp (K w.params) H xs a h1 h2 h3 h4) fun _ H s e s' => hCX H s e s'
end L2
end

section
set_option Elab.async false
set_option linter.all false
set_option maxRecDepth 100000
namespace L2
open PySem PySem.Spec PyProof.Rows
def Wid (i : Int) : Prop := i.natAbs < 10 ^ 2000
theorem Wid.log {i : Int} (h : Wid i) : i.natAbs.log2 < 9000 := by
  by_cases h0 : i.natAbs = 0
  · rw [h0]; decide +kernel
  · exact (Nat.log2_lt h0).mpr (Nat.lt_of_lt_of_le h (by decide +kernel))
theorem Wid.bits {i : Int} (h : Wid i) : Builtin.Int.intBits i ≤ 2 ^ 20 := by
  have h1 := h.log
  unfold Builtin.Int.intBits
  have e : (2 : Nat) ^ 20 = 1048576 := by decide
  split <;> omega
def CMulW (i j : Int) : Prop := CMul i j ∨ (Wid i ∧ Wid j)
theorem CMulW.ok {i j : Int} (h : CMulW i j) : IntMulOk i j := by
  rcases h with h | ⟨h1, h2⟩
  · exact h.ok
  · exact .of_bits h1.bits h2.bits
theorem Wid.nopy {i : Int} (h : Wid i) (j : Int) : Builtin.divisionGoesByPylong i j = false := by
  have h1 := h.log
  by_cases hj : j.natAbs.log2 < 9000
  · exact PyProof.noPylong_of_log2 hj
  · show (decide ((if j == 0 then 0 else j.natAbs.log2 / 30 + 1) > 300) && decide ((if i == 0 then 0 else i.natAbs.log2 / 30 + 1) > (if j == 0 then 0 else j.natAbs.log2 / 30 + 1) + 150)) = false
    have hz : (j == 0) = false := by
      rw [beq_eq_false_iff_ne]
      rintro rfl
      exact hj (by decide +kernel)
    rw [hz]
    have : ¬ (if i == 0 then 0 else i.natAbs.log2 / 30 + 1) > (if false = true then 0 else j.natAbs.log2 / 30 + 1) + 150 := by
      simp only [Bool.false_eq_true, if_false]
      split <;> omega
    rw [decide_eq_false this, Bool.and_false]
def CDivW (i j : Int) : Prop := 0 < j ∧ (Wid i ∨ Wid j)
theorem CDivW.ok {i j : Int} (h : CDivW i j) : Builtin.divisionGoesByPylong i j = false := by
  rcases h.2 with h | h
  · exact h.nopy j
  · exact PyProof.noPylong_of_log2 h.log
section
variable {X : Cx}
theorem op_mulW : OpR X (binaryOp .Mult) (rI CMulW fun i j => .int (i * j)) := opI fun _ _ _ _ _ _ _ hc q => mul_int q hc.ok
theorem op_fdivW : OpR X (binaryOp .FloorDiv) (rI CDivW fun i j => .int (i / j)) := opI fun i j _ _ _ _ _ hc q => by
  have h1 : (0 : Int) < j := hc.1
  exact floordiv_int (by omega) (by rw [Int.fdiv_eq_ediv_of_nonneg i (by omega)]; exact q) (.inl hc.ok)
def GI (mg : Str → Option Value) (x : Str) (i : Int) : Prop := ∃ t, mg x = some (Value.int i t)
theorem pe_gi {x : Str} {i : Int} {pos : Pos} (h : GI X.mg x i) (hg : Gl X x := by rfl) (hd : (x == ("__debug__" : Str)) = false := by decide) : PE X (.Name x pos) (tC (.int i)) := by
  obtain ⟨t, e⟩ := h
  exact pe_glob hg e ⟨t, rfl⟩ hd
end
theorem ob_min : bootBuiltins "min" = some (.builtin "min") := by decide +kernel
theorem ob_max : bootBuiltins "max" = some (.builtin "max") := by decide +kernel
theorem ob_abs : bootBuiltins "abs" = some (.builtin "abs") := by decide +kernel
theorem ob_len : bootBuiltins "len" = some (.builtin "len") := by decide +kernel
theorem ob_str : bootBuiltins "str" = some (.type "str") := by decide +kernel
theorem call_max3 {X : Cx} (hc : X.calm = true) : CallR X (.builtin "max") (fun xs H Q => ∃ i j k, xs = [.int i, .int j, .int k] ∧ Q (.int (max i (max j k))) H) := by
  intro pins s σ H xs us Q I r h
  obtain ⟨i, j, k, rfl, q⟩ := h
  cases r with
  | cons r1 r =>
    cases r with
    | cons r2 r =>
      cases r with
      | cons r3 r =>
        cases r
        obtain ⟨t, rfl⟩ := r1
        obtain ⟨t', rfl⟩ := r2
        obtain ⟨t'', rfl⟩ := r3
        refine PySem.max_three_ints (I.ok.hd hc) fun h' tk kp => ⟨_, H, I.kept kp, ?_, q⟩
        by_cases h1 : j > i
        · rw [if_pos h1]
          by_cases h2 : k > j
          · rw [if_pos h2]
            exact ⟨_, congrArg (fun z => Value.int z _) (by omega)⟩
          · rw [if_neg h2]
            exact ⟨_, congrArg (fun z => Value.int z _) (by omega)⟩
        · rw [if_neg h1]
          by_cases h2 : k > i
          · rw [if_pos h2]
            exact ⟨_, congrArg (fun z => Value.int z _) (by omega)⟩
          · rw [if_neg h2]
            exact ⟨_, congrArg (fun z => Value.int z _) (by omega)⟩
def NoDig (K : PySem.W.Frag) : Prop := PySem.W.nsIn K cStatics "sys.int_max_str_digits" = some none
theorem NoDig.at_ {K : PySem.W.Frag} {h : Heap} (hn : NoDig K) (kin : K.In h) (lim : h.NoLimit) : h.NoDigits := by
  obtain ⟨mc, G, _⟩ := lim
  refine ⟨mc, G, ?_⟩
  obtain ⟨o, es, ep, ho, hd, hw, hf⟩ := G
  have hn : PySem.W.nsIn K cStatics "sys.int_max_str_digits" = some none := hn
  unfold PySem.W.nsIn at hn
  revert hn
  split
  · rename_i q
    intro z
    have e1 := kin _ _ q
    rw [ho] at e1
    cases e1
    cases hd
    revert z
    split
    · intro z
      cases z
    · rename_i he
      intro z
      rw [← hf]
      unfold nsFind findBy
      rw [← Array.find?_toList, he]
      rfl
  · intro z
    cases z
theorem call_strW {X : Cx} (hn : NoDig X.K) (hc : X.calm = true) : CallR X (.type "str") (fun xs H Q => ∃ i, xs = [.int i] ∧ i.natAbs < 10 ^ 4300 ∧ Q (.str (toString i)) H) := by
  intro pins s σ H xs us Q I r h
  obtain ⟨i, rfl, hz, q⟩ := h
  obtain ⟨u, rfl, t, rfl⟩ := vals1 r
  exact PyProof.Rows.str_of_int_or (I.ok.hd hc) (hn.at_ I.kIn I.nolimit) (fun _ => ⟨.str _, H, I.tok _, ⟨_, rfl⟩, q⟩) fun z => absurd hz (Nat.not_lt.mpr z)
structure Def (P : Program) (w : World) (K : PySem.W.Frag) (mg : Str → Option Value) (base : Heap) (x : Str) (k : Nat) (ps : List Str) (sp : Sp) : Prop where
  ex : ∃ (f : Addr) (fd : FuncData), mg x = some (.ref f) ∧ PySem.W.keepIn K (.ref f) = true ∧ Binds K fd ps [] ∧ FnOk P w K mg base CX0 k f fd ps sp
section
variable {X : Cx} {k : Nat} {x : Str} {ps : List Str} {sp : Sp} {p pos : Pos} {e : Expr} {es : List Expr} {t : TA}
theorem pe_def (D : Def X.prog X.w X.K X.mg X.base x k ps sp) (hr : Room k X.A) (ha : PA X (e :: es) t) (hg : Gl X x := by rfl) (hdb : (x == ("__debug__" : Str)) = false := by decide)
    (he : starEach (e :: es) X.env = (false, eval e X.env) :: starEach es X.env := by rfl) (hpl : (backTo pos (starEach es X.env)).any (·.1) = false := by rfl) : PE X (.Call (.Name x p) (e :: es) [] pos) (tCall sp [] E0 t) := by
  obtain ⟨f, fd, hm, hk, hb, F⟩ := D.ex
  exact pe_call F hr hg hm hk hb .nil pass0 ha hdb he hpl
theorem pe_def0 (D : Def X.prog X.w X.K X.mg X.base x k ps sp) (hr : Room k X.A) (hg : Gl X x := by rfl) (hdb : (x == ("__debug__" : Str)) = false := by decide) : PE X (.Call (.Name x p) [] [] pos) (tCall sp [] E0 tNil) := by
  obtain ⟨f, fd, hm, hk, hb, F⟩ := D.ex
  exact pe_call0 F hr hg hm hk hb .nil pass0 hdb
end
structure N4 where
  k : Int
  m : Int
  c : Int
  e : Int
def nf (n : N4) : List (Str × V) := [("kind", .int n.k), ("minus", .int n.m), ("coefficient", .int n.c), ("exponent", .int n.e)]
def At4 (C : Addr) (H : Hp) (p : Addr) (n : N4) : Prop := ∃ dx, H p = some (.ins C dx (nf n))
theorem nf_inj {n m : N4} (h : nf n = nf m) : n = m := by
  cases n; cases m
  simp only [nf, List.cons.injEq, Prod.mk.injEq, V.int.injEq, true_and, and_true] at h
  obtain ⟨rfl, rfl, rfl, rfl⟩ := h
  rfl
theorem ex_num {C p : Addr} {H : Hp} {n : N4} (h : At4 C H p n) (R : N4 → Prop) : (∃ m, At4 C H p m ∧ R m) ↔ R n := by
  constructor
  · rintro ⟨m, ⟨dx, e⟩, r⟩
    obtain ⟨dy, e'⟩ := h
    rw [e] at e'
    have q : nf m = nf n := by
      have := Option.some.inj e'
      injection this
    rw [← nf_inj q]; exact r
  · exact fun r => ⟨n, h, r⟩
theorem At4.same {C p : Addr} {H H' : Hp} {n : N4} (h : At4 C H p n) (s : Same H H') : At4 C H' p n := let ⟨dx, e⟩ := h; ⟨dx, s _ _ e⟩
structure NumC (K : PySem.W.Frag) (C : Addr) : Prop where
  cl : Cls K C
  nk : NoAttr K C "kind"
  nm : NoAttr K C "minus"
  nc : NoAttr K C "coefficient"
  ne : NoAttr K C "exponent"
def tNF (C : Addr) (ta : TE) (g : N4 → Int) : TE := fun σ H Q => ta σ H fun x H1 => ∃ p, x = .ref p ∧ ∃ n, At4 C H1 p n ∧ Q (.int (g n)) H1
section
variable {X : Cx} {C : Addr} {e : Expr} {ta : TE} {pos : Pos}
theorem pe_nf {f : Str} {g : N4 → Int} (c : Cls X.K C) (na : NoAttr X.K C f) (l : ∀ n, (nf n).lookup f = some (.int (g n))) (he : PE X e ta) (hb : attributeBase e f X.env (eval e X.env) = eval e X.env) : PE X (.Attribute e f pos) (tNF C ta g) := by
  intro pins s σ H Q I h
  refine attr_of hb (thn (he pins s σ H _ I h) fun u s1 ⟨x, H1, I1, rx, p, ex, n, ⟨dx, ea⟩, q⟩ => ?_)
  subst ex
  obtain rfl : u = Value.ref p := rx
  exact getattr_ok I1 ea c na (l n) fun u' s2 I2 ru => ⟨.int (g n), H1, I2, ru, q⟩
theorem pe_k (T : NumC X.K C) (he : PE X e ta) (hb : attributeBase e "kind" X.env (eval e X.env) = eval e X.env := by rfl) : PE X (.Attribute e "kind" pos) (tNF C ta N4.k) := pe_nf T.cl T.nk (fun _ => rfl) he hb
theorem pe_m (T : NumC X.K C) (he : PE X e ta) (hb : attributeBase e "minus" X.env (eval e X.env) = eval e X.env := by rfl) : PE X (.Attribute e "minus" pos) (tNF C ta N4.m) := pe_nf T.cl T.nm (fun _ => rfl) he hb
theorem pe_c (T : NumC X.K C) (he : PE X e ta) (hb : attributeBase e "coefficient" X.env (eval e X.env) = eval e X.env := by rfl) : PE X (.Attribute e "coefficient" pos) (tNF C ta N4.c) := pe_nf T.cl T.nc (fun _ => rfl) he hb
theorem pe_e (T : NumC X.K C) (he : PE X e ta) (hb : attributeBase e "exponent" X.env (eval e X.env) = eval e X.env := by rfl) : PE X (.Attribute e "exponent" pos) (tNF C ta N4.e) := pe_nf T.cl T.ne (fun _ => rfl) he hb
end
def spInit (C : Addr) : Sp := fun vs H Q _ => ∃ (p dx : Addr) (k m c e : Int), vs = [.ref p, .int k, .int m, .int c, .int e] ∧ H p = some (.ins C dx []) ∧
  ∀ H' : Hp, H' p = some (.ins C dx (nf ⟨k, m, c, e⟩)) → (∀ b o, H b = some o → b ≠ p → H' b = some o) → Q .non H'
abbrev psInit : List Str := ["self", "kind", "minus", "coefficient", "exponent"]
structure NumDef (P : Program) (w : World) (K : PySem.W.Frag) (mg : Str → Option Value) (base : Heap) (C : Addr) : Prop where
  nc : NumC K C
  mgC : mg "Number" = some (.ref C)
  ex : ∃ (f : Addr) (fd : FuncData), Mk K C f ∧ Binds K fd psInit [] ∧ FnOk P w K mg base CX0 1 f fd psInit (spInit C)
def tNew (C : Addr) (t : TA) : TE := fun σ H Q => t σ H fun vs H1 => ∃ k m c e : Int, vs = [.int k, .int m, .int c, .int e] ∧ ∀ (H' : Hp) (p : Addr), At4 C H' p ⟨k, m, c, e⟩ → Same H1 H' → Q (.ref p) H'
section
variable {X : Cx} {C : Addr} {e : Expr} {es : List Expr} {p pos : Pos} {t : TA}
theorem pe_new (D : NumDef X.prog X.w X.K X.mg X.base C) (hr : Room 2 X.A) (ha : PA X (e :: es) t) (hg : Gl X "Number" := by rfl)
    (he : starEach (e :: es) X.env = (false, eval e X.env) :: starEach es X.env := by rfl) (hpl : (backTo pos (starEach es X.env)).any (·.1) = false := by rfl) :
    PE X (.Call (.Name "Number" p) (e :: es) [] pos) (tNew C t) := by
  obtain ⟨f, fd, M, hb, F⟩ := D.ex
  intro pins s σ H Q I h
  refine wpAny_Call_Name_kw (ld_glob I hg D.mgC ?_ (by decide))
  refine PySem.W.callWith_K (h₀ := X.base) I.ok.mod.kin M.kp (thn (ha pos pins s σ H _ I h) fun us s1 ⟨vs, H1, I1, r, q⟩ => ⟨I1.kIn, ?_⟩) he hpl
  obtain ⟨k, m, c, e', rfl, q⟩ := q
  refine run_make (dvs := []) M F hr hb .nil pass0 I1 r fun x dx n1 n2 ne => ?_
  refine ⟨x, dx, k, m, c, e', rfl, upd_same, fun H' h1 h2 => ⟨rfl, q H' x ⟨dx, h1⟩ ?_⟩⟩
  exact Same.made n1 n2 h2
end
def b2 (a : Bool) : Int := if a then 1 else 0
def Rep : Kg10.Num → N4 → Prop
  | .fin a c e, n => n = ⟨0, b2 a, c, e⟩
  | .inf a, n => n = ⟨1, b2 a, 0, 0⟩
  | .nan, n => n.k = 2
def NumZ (C : Addr) (H : Hp) (p : Addr) (z : Kg10.Num) : Prop := ∃ n, At4 C H p n ∧ Rep z n
theorem NumZ.same {C p : Addr} {H H' : Hp} {z : Kg10.Num} (h : NumZ C H p z) (s : Same H H') : NumZ C H' p z := let ⟨n, a, r⟩ := h; ⟨n, a.same s, r⟩
theorem NumZ.fin {C p : Addr} {H : Hp} {a : Bool} {c : Nat} {e : Int} (h : NumZ C H p (.fin a c e)) : At4 C H p ⟨0, b2 a, c, e⟩ := by
  obtain ⟨n, h, r⟩ := h
  have r' : n = ⟨0, b2 a, c, e⟩ := r
  rw [← r']; exact h
theorem NumZ.inf {C p : Addr} {H : Hp} {a : Bool} (h : NumZ C H p (.inf a)) : At4 C H p ⟨1, b2 a, 0, 0⟩ := by
  obtain ⟨n, h, r⟩ := h
  have r' : n = ⟨1, b2 a, 0, 0⟩ := r
  rw [← r']; exact h
theorem NumZ.nan {C p : Addr} {H : Hp} (h : NumZ C H p .nan) : ∃ m c e, At4 C H p ⟨2, m, c, e⟩ := by
  obtain ⟨⟨k, m, c, e⟩, h, r⟩ := h
  have r' : k = 2 := r
  exact ⟨m, c, e, r' ▸ h⟩
theorem At4.fin {C p : Addr} {H : Hp} {a : Bool} {c : Nat} {e : Int} (h : At4 C H p ⟨0, b2 a, c, e⟩) : NumZ C H p (.fin a c e) := ⟨_, h, rfl⟩
theorem At4.inf {C p : Addr} {H : Hp} {a : Bool} (h : At4 C H p ⟨1, b2 a, 0, 0⟩) : NumZ C H p (.inf a) := ⟨_, h, rfl⟩
theorem At4.nan {C p : Addr} {H : Hp} {m c e : Int} (h : At4 C H p ⟨2, m, c, e⟩) : NumZ C H p .nan := ⟨_, h, rfl⟩
end L2
end
section
namespace DM
open Kg10
theorem sides_eq (n d : Nat) (e : Int) : sides n d e = (n * 10 ^ (-e).toNat, d * 10 ^ e.toNat) := by
  unfold sides
  split
  · have : e.toNat = 0 := by omega
    rw [this]; simp
  · have : (-e).toNat = 0 := by omega
    rw [this]; simp
theorem ratio_eq (c : Nat) (e : Int) : ratio c e = (c * 10 ^ e.toNat, 10 ^ (-e).toNat) := by
  unfold ratio
  split
  · have : e.toNat = 0 := by omega
    rw [this]; simp
  · have : (-e).toNat = 0 := by omega
    rw [this]
theorem ten_pos (k : Nat) : 0 < 10 ^ k := Nat.pow_pos (by decide)
def Val (n d c : Nat) (E : Int) : Prop := n * 10 ^ (-E).toNat = d * c * 10 ^ E.toNat
theorem val_ratio (c : Nat) (e : Int) : Val (ratio c e).1 (ratio c e).2 c e := by
  unfold Val
  rw [ratio_eq]
  show c * 10 ^ e.toNat * 10 ^ (-e).toNat = 10 ^ (-e).toNat * c * 10 ^ e.toNat
  rw [Nat.mul_right_comm, Nat.mul_comm c (10 ^ (-e).toNat)]
theorem Val.strip {n d c c' k : Nat} {E : Int} (h : Val n d c E) (hc : c = c' * 10 ^ k) : Val n d c' (E + k) := by
  unfold Val at *
  subst hc
  have h1 : n * 10 ^ (-(E + k)).toNat * 10 ^ (-E).toNat = d * c' * 10 ^ (E + k).toNat * 10 ^ (-E).toNat := by
    rw [Nat.mul_right_comm, h]
    have e1 : (10:Nat) ^ k * (10 ^ E.toNat * 10 ^ (-(E + k)).toNat) = 10 ^ (E + k).toNat * 10 ^ (-E).toNat := by
      rw [← Nat.mul_assoc, ← Nat.pow_add, ← Nat.pow_add, ← Nat.pow_add]
      congr 1
      omega
    calc d * (c' * 10 ^ k) * 10 ^ E.toNat * 10 ^ (-(E + k)).toNat = d * c' * (10 ^ k * (10 ^ E.toNat * 10 ^ (-(E + k)).toNat)) := by simp only [Nat.mul_assoc]
      _ = d * c' * 10 ^ (E + k).toNat * 10 ^ (-E).toNat := by rw [e1, Nat.mul_assoc, Nat.mul_assoc, Nat.mul_assoc]
  exact Nat.eq_of_mul_eq_mul_right (ten_pos _) h1
theorem Val.hi {n d c : Nat} {E e : Int} (h : Val n d c E) (he : e ≤ E) : (sides n d e).1 = (sides n d e).2 * (c * 10 ^ (E - e).toNat) := by
  rw [sides_eq]
  unfold Val at h
  show n * 10 ^ (-e).toNat = d * 10 ^ e.toNat * (c * 10 ^ (E - e).toNat)
  have h1 : n * 10 ^ (-e).toNat * 10 ^ (-E).toNat = d * 10 ^ e.toNat * (c * 10 ^ (E - e).toNat) * 10 ^ (-E).toNat := by
    rw [Nat.mul_right_comm, h]
    have e1 : (10:Nat) ^ E.toNat * 10 ^ (-e).toNat = 10 ^ e.toNat * (10 ^ (E - e).toNat * 10 ^ (-E).toNat) := by
      rw [← Nat.pow_add, ← Nat.pow_add, ← Nat.pow_add]
      congr 1
      omega
    calc d * c * 10 ^ E.toNat * 10 ^ (-e).toNat = d * c * (10 ^ E.toNat * 10 ^ (-e).toNat) := by rw [Nat.mul_assoc]
      _ = d * 10 ^ e.toNat * (c * 10 ^ (E - e).toNat) * 10 ^ (-E).toNat := by rw [e1]; ac_rfl
  exact Nat.eq_of_mul_eq_mul_right (ten_pos _) h1
theorem Val.lo {n d c : Nat} {E e : Int} (h : Val n d c E) (he : E ≤ e) : (sides n d e).1 * 10 ^ (e - E).toNat = (sides n d e).2 * c := by
  rw [sides_eq]
  unfold Val at h
  show n * 10 ^ (-e).toNat * 10 ^ (e - E).toNat = d * 10 ^ e.toNat * c
  have h1 : n * 10 ^ (-e).toNat * 10 ^ (e - E).toNat * 10 ^ (-E).toNat = d * 10 ^ e.toNat * c * 10 ^ (-E).toNat := by
    have e1 : (10:Nat) ^ E.toNat * (10 ^ (-e).toNat * 10 ^ (e - E).toNat) = 10 ^ e.toNat * 10 ^ (-E).toNat := by
      rw [← Nat.pow_add, ← Nat.pow_add, ← Nat.pow_add]
      congr 1
      omega
    calc n * 10 ^ (-e).toNat * 10 ^ (e - E).toNat * 10 ^ (-E).toNat = (n * 10 ^ (-E).toNat) * (10 ^ (-e).toNat * 10 ^ (e - E).toNat) := by ac_rfl
      _ = d * c * (10 ^ E.toNat * (10 ^ (-e).toNat * 10 ^ (e - E).toNat)) := by rw [h]; ac_rfl
      _ = d * 10 ^ e.toNat * c * 10 ^ (-E).toNat := by rw [e1]; ac_rfl
  exact Nat.eq_of_mul_eq_mul_right (ten_pos _) h1
theorem sides_pos {n d : Nat} {e : Int} (hd : 0 < d) : 0 < (sides n d e).2 := by
  rw [sides_eq]
  exact Nat.mul_pos hd (ten_pos _)
theorem div_scale {a b c s : Nat} (h : a * s = b * c) (hb : 0 < b) (hs : 0 < s) : a / b = c / s := by
  rw [← Nat.mul_div_mul_right a b hs, h, Nat.mul_div_mul_left _ _ hb]
theorem mod_scale {a b c s : Nat} (h : a * s = b * c) : (a % b) * s = b * (c % s) := by
  rw [← Nat.mul_mod_mul_right, h, Nat.mul_mod_mul_left]
theorem halfEven_scale {a b c s : Nat} (h : a * s = b * c) (hb : 0 < b) (hs : 0 < s) : halfEven a b = halfEven c s := by
  unfold halfEven
  rw [div_scale h hb hs]
  have hm := mod_scale (c := c) h
  have e1 : b < 2 * (a % b) ↔ s < 2 * (c % s) := by
    constructor
    · intro q
      have : b * s < b * (2 * (c % s)) := by
        calc b * s < 2 * (a % b) * s := Nat.mul_lt_mul_of_pos_right q hs
          _ = b * (2 * (c % s)) := by rw [Nat.mul_assoc, hm]; ac_rfl
      exact Nat.lt_of_mul_lt_mul_left this
    · intro q
      have : b * s < 2 * (a % b) * s := by
        calc b * s < b * (2 * (c % s)) := Nat.mul_lt_mul_of_pos_left q hb
          _ = 2 * (a % b) * s := by rw [Nat.mul_assoc 2, hm]; ac_rfl
      exact Nat.lt_of_mul_lt_mul_right this
  have e2 : b = 2 * (a % b) ↔ s = 2 * (c % s) := by
    constructor
    · intro q
      have : b * s = b * (2 * (c % s)) := by
        calc b * s = 2 * (a % b) * s := by rw [← q]
          _ = b * (2 * (c % s)) := by rw [Nat.mul_assoc, hm]; ac_rfl
      exact Nat.eq_of_mul_eq_mul_left hb this
    · intro q
      have : b * s = 2 * (a % b) * s := by
        calc b * s = b * (2 * (c % s)) := by rw [← q]
          _ = 2 * (a % b) * s := by rw [Nat.mul_assoc 2, hm]; ac_rfl
      exact Nat.eq_of_mul_eq_mul_right hs this
  simp only [e1, e2]
def clampIn (lo x hi : Int) : Int := max lo (min x hi)
theorem near_step {ideal : Int} (l : List (Nat × Int)) (x : Nat × Int) : nearest ideal (l ++ [x]) = (match nearest ideal l with
  | none => some x
  | some y => if (x.2 - ideal).natAbs < (y.2 - ideal).natAbs then some x else some y) := by
  unfold nearest
  rw [List.foldl_append]
  rfl
theorem near_range {ideal lo hi : Int} {g : Int → Option (Nat × Int)} {k : Int → Nat} (h0 : LEAST ≤ lo)
    (hg : ∀ e, g e = if lo ≤ e ∧ e ≤ hi then some (k e, e) else none) (n : Nat) :
    nearest ideal (((List.range n).map fun (i : Nat) => LEAST + (i : Int)).filterMap g) =
      if lo ≤ min hi (LEAST + n - 1) then some (k (clampIn lo ideal (min hi (LEAST + n - 1))), clampIn lo ideal (min hi (LEAST + n - 1))) else none := by
  induction n with
  | zero =>
    rw [if_neg (by omega)]
    rfl
  | succ n ih =>
    rw [List.range_succ, List.map_append, List.filterMap_append]
    show nearest ideal (_ ++ List.filterMap g [LEAST + (n : Int)]) = _
    rw [List.filterMap_cons, List.filterMap_nil, hg]
    by_cases c1 : lo ≤ LEAST + (n : Int) ∧ LEAST + (n : Int) ≤ hi
    · rw [if_pos c1]
      show nearest ideal (_ ++ [(k (LEAST + (n : Int)), LEAST + (n : Int))]) = _
      rw [near_step, ih]
      have e1 : min hi (LEAST + (n + 1 : Nat) - 1) = LEAST + (n : Int) := by omega
      rw [e1, if_pos c1.1]
      by_cases c2 : lo ≤ min hi (LEAST + n - 1)
      · rw [if_pos c2]
        have e2 : min hi (LEAST + (n:Int) - 1) = LEAST + (n : Int) - 1 := by omega
        rw [e2]
        show (if (LEAST + (n : Int) - ideal).natAbs < (clampIn lo ideal (LEAST + ↑n - 1) - ideal).natAbs then _ else _) = _
        have c3 : lo ≤ LEAST + (n:Int) - 1 := by omega
        by_cases c4 : LEAST + (n : Int) ≤ ideal
        · have e3 : clampIn lo ideal (LEAST + (n:Int) - 1) = LEAST + (n:Int) - 1 := by unfold clampIn; omega
          have e4 : clampIn lo ideal (LEAST + (n:Int)) = LEAST + (n:Int) := by unfold clampIn; omega
          rw [e3, e4, if_pos (by omega)]
        · have e4 : clampIn lo ideal (LEAST + (n:Int)) = clampIn lo ideal (LEAST + (n:Int) - 1) := by unfold clampIn; omega
          rw [e4, if_neg (by unfold clampIn; omega)]
      · rw [if_neg c2]
        have e4 : clampIn lo ideal (LEAST + (n:Int)) = LEAST + (n:Int) := by unfold clampIn; omega
        rw [e4]
    · rw [if_neg c1]
      show nearest ideal (_ ++ []) = _
      rw [List.append_nil, ih]
      by_cases c2 : lo ≤ min hi (LEAST + n - 1)
      · have e1 : min hi (LEAST + (n + 1 : Nat) - 1) = min hi (LEAST + n - 1) := by omega
        rw [e1]
      · rw [if_neg c2, if_neg (by omega)]
theorem fm_congr {α β : Type} {f g : α → Option β} : ∀ {l : List α}, (∀ x ∈ l, f x = g x) → l.filterMap f = l.filterMap g
  | [], _ => rfl
  | a :: l, h => by
    rw [List.filterMap_cons, List.filterMap_cons, h a List.mem_cons_self, fm_congr (l := l) fun x hx => h x (List.mem_cons_of_mem _ hx)]
theorem near_all {ideal lo hi : Int} {g : Int → Option (Nat × Int)} {k : Int → Nat} (h0 : LEAST ≤ lo) (h1 : hi ≤ MOST)
    (hg : ∀ e, LEAST ≤ e → e ≤ MOST → g e = if lo ≤ e ∧ e ≤ hi then some (k e, e) else none) :
    nearest ideal (exponents.filterMap g) = if lo ≤ hi then some (k (clampIn lo ideal hi), clampIn lo ideal hi) else none := by
  have e0 : exponents.filterMap g = exponents.filterMap (fun e => if lo ≤ e ∧ e ≤ hi then some (k e, e) else none) := by
    refine fm_congr fun e he => ?_
    unfold exponents at he
    obtain ⟨i, hi', rfl⟩ := List.mem_map.mp he
    have := List.mem_range.mp hi'
    exact hg _ (by omega) (by unfold LEAST MOST; omega)
  rw [e0]
  unfold exponents
  rw [near_range h0 (fun _ => rfl) 768]
  have e1 : min hi (LEAST + (768 : Nat) - 1) = hi := by unfold LEAST MOST at *; omega
  rw [e1]
theorem find_range {L : Int} (n : Nat) :
    (((List.range n).map fun (i : Nat) => LEAST + (i : Int)).find? fun e => decide (L ≤ e)) = if max LEAST L ≤ LEAST + n - 1 then some (max LEAST L) else none := by
  induction n with
  | zero =>
    rw [if_neg (by omega)]
    rfl
  | succ n ih =>
    rw [List.range_succ, List.map_append, List.find?_append, ih]
    show (if max LEAST L ≤ LEAST + (n:Int) - 1 then some (max LEAST L) else none).or (List.find? (fun e => decide (L ≤ e)) [LEAST + (n : Int)]) = _
    by_cases c : max LEAST L ≤ LEAST + (n:Int) - 1
    · rw [if_pos c, if_pos (by omega)]
      rfl
    · rw [if_neg c]
      show List.find? (fun e => decide (L ≤ e)) [LEAST + (n : Int)] = _
      rw [List.find?_cons, List.find?_nil]
      by_cases c2 : L ≤ LEAST + (n:Int)
      · rw [decide_eq_true c2, if_pos (by omega)]
        show some _ = some _
        congr 1
        omega
      · rw [decide_eq_false c2, if_neg (by omega)]
theorem find_congr {α : Type} {p q : α → Bool} : ∀ {l : List α}, (∀ x ∈ l, p x = q x) → l.find? p = l.find? q
  | [], _ => rfl
  | a :: l, h => by
    rw [List.find?_cons, List.find?_cons, h a List.mem_cons_self, find_congr (l := l) fun x hx => h x (List.mem_cons_of_mem _ hx)]
theorem mem_exponents {e : Int} (he : e ∈ exponents) : LEAST ≤ e ∧ e ≤ MOST := by
  unfold exponents at he
  obtain ⟨i, hi', rfl⟩ := List.mem_map.mp he
  have := List.mem_range.mp hi'
  exact ⟨by omega, by unfold LEAST MOST; omega⟩
theorem find_all {L : Int} {p : Int → Bool} (h : ∀ e, LEAST ≤ e → e ≤ MOST → p e = decide (L ≤ e)) : exponents.find? p = if max LEAST L ≤ MOST then some (max LEAST L) else none := by
  rw [find_congr (q := fun e => decide (L ≤ e)) fun e he => h e (mem_exponents he).1 (mem_exponents he).2]
  unfold exponents
  rw [find_range]
  have e1 : LEAST + ((768 : Nat) : Int) - 1 = MOST := by decide
  rw [e1]
end DM
end
section
namespace DM
open Kg10
def Dig (c k : Nat) : Prop := 1 ≤ k ∧ 10 ^ (k - 1) ≤ c ∧ c < 10 ^ k
theorem TOP_eq : TOP = 10 ^ 16 := rfl
theorem dig_top {c k j : Nat} (h : Dig c k) : c * 10 ^ j < TOP ↔ k + j ≤ 16 := by
  obtain ⟨h1, h2, h3⟩ := h
  rw [TOP_eq]
  constructor
  · intro q
    refine Nat.le_of_not_lt fun z => ?_
    have : 10 ^ 16 ≤ c * 10 ^ j := by
      calc 10 ^ 16 ≤ 10 ^ (k - 1 + j) := Nat.pow_le_pow_right (by decide) (by omega)
        _ = 10 ^ (k - 1) * 10 ^ j := Nat.pow_add _ _ _
        _ ≤ c * 10 ^ j := Nat.mul_le_mul_right _ h2
    omega
  · intro q
    calc c * 10 ^ j < 10 ^ k * 10 ^ j := Nat.mul_lt_mul_of_pos_right h3 (ten_pos _)
      _ = 10 ^ (k + j) := (Nat.pow_add _ _ _).symm
      _ ≤ 10 ^ 16 := Nat.pow_le_pow_right (by decide) q
theorem dig_div {c k j : Nat} (h : Dig c k) : c / 10 ^ j < TOP ↔ k ≤ 16 + j := by
  obtain ⟨h1, h2, h3⟩ := h
  rw [TOP_eq, Nat.div_lt_iff_lt_mul (ten_pos _), ← Nat.pow_add]
  constructor
  · intro q
    refine Nat.le_of_not_lt fun z => ?_
    have : 10 ^ (16 + j) ≤ c := Nat.le_trans (Nat.pow_le_pow_right (by decide) (by omega)) h2
    omega
  · intro q
    exact Nat.lt_of_lt_of_le h3 (Nat.pow_le_pow_right (by decide) q)
theorem nodiv_pow {c j : Nat} (hc : c % 10 ≠ 0) (hj : 0 < j) : c % 10 ^ j ≠ 0 := by
  intro q
  have h1 : 10 ∣ 10 ^ j := by
    obtain ⟨i, rfl⟩ : ∃ i, j = i + 1 := ⟨j - 1, by omega⟩
    rw [Nat.pow_succ]
    exact Nat.dvd_mul_left _ _
  have h2 : 10 ∣ c := Nat.dvd_trans h1 (Nat.dvd_of_mod_eq_zero q)
  exact hc (Nat.mod_eq_zero_of_dvd h2)
def nearM (neg : Bool) (c : Nat) (E : Int) (k : Nat) : Num :=
  let drop := max 0 (max ((k : Int) - 16) (-398 - E))
  let kept := halfEven c (10 ^ drop.toNat)
  let e := E + drop
  let kept' := if kept = 10 ^ 16 then 10 ^ 15 else kept
  let e' := if kept = 10 ^ 16 then e + 1 else e
  if e' > 369 then .inf neg else .fin neg kept' e'
def roundM (neg : Bool) (c : Nat) (E ideal : Int) (k : Nat) : Num :=
  let lo := max (-398) (E - (16 - (k : Int)))
  let hi := min 369 E
  if lo > hi then nearM neg c E k
  else .fin neg (c * 10 ^ (E - clampIn lo ideal hi).toNat) (clampIn lo ideal hi)
theorem halfEven_le {c s : Nat} (hs : 0 < s) (h : c < TOP * s) : halfEven c s ≤ TOP := by
  have : c / s < TOP := (Nat.div_lt_iff_lt_mul hs).mpr h
  unfold halfEven
  dsimp only
  split <;> omega
theorem div_of_mul {a b c : Nat} (h : a = b * c) (hb : 0 < b) : a / b = c ∧ a % b = 0 := by
  subst h
  exact ⟨Nat.mul_div_cancel_left _ hb, Nat.mul_mod_right _ _⟩
theorem TOP_div : TOP / 10 = 10 ^ 15 := by decide
theorem settle {neg : Bool} {kept : Nat} {e : Int} (hle : kept ≤ TOP) (hm : e ≤ 369) :
    settled neg kept e = if (if kept = 10 ^ 16 then e + 1 else e) > 369 then .inf neg else .fin neg (if kept = 10 ^ 16 then 10 ^ 15 else kept) (if kept = 10 ^ 16 then e + 1 else e) := by
  unfold settled MOST
  rw [TOP_div, TOP_eq]
  rw [TOP_eq] at hle
  generalize (10 : Nat) ^ 16 = T at *
  generalize (10 : Nat) ^ 15 = U at *
  by_cases ht : kept < T
  · have hne : ¬ kept = T := by omega
    rw [if_pos ht, if_neg hne, if_neg hne, if_neg (by omega)]
  · have heq : kept = T := by omega
    rw [if_neg ht, if_pos heq, if_pos heq]
    by_cases hl : e < 369
    · rw [if_pos hl, if_neg (by omega)]
    · rw [if_neg hl, if_pos (by omega)]
def candF (n d : Nat) (e : Int) : Option (Nat × Int) := if (sides n d e).1 % (sides n d e).2 = 0 ∧ (sides n d e).1 / (sides n d e).2 < TOP then some ((sides n d e).1 / (sides n d e).2, e) else none
def smallF (n d : Nat) (e : Int) : Bool := decide ((sides n d e).1 / (sides n d e).2 < TOP)
def fin1 (neg : Bool) (r : Int → Num) (a : Option (Nat × Int)) (b : Option Int) : Num := match a with
  | some p => .fin neg p.1 p.2
  | none => match b with
    | some e => r e
    | none => .inf neg
def lastF (neg : Bool) (n d : Nat) (e : Int) : Num := settled neg (halfEven (sides n d e).1 (sides n d e).2) e
theorem fit_of {neg : Bool} {n d : Nat} {ideal : Int} {a : Option (Nat × Int)} {b : Option Int} (hn : n ≠ 0)
    (ha : nearest ideal (exponents.filterMap (candF n d)) = a) (hb : exponents.find? (smallF n d) = b) : fit neg n d ideal = fin1 neg (lastF neg n d) a b := by
  unfold fit
  rw [if_neg hn]
  generalize hA : nearest ideal _ = A
  generalize hB : List.find? _ exponents = B
  have e1 : A = a := by
    rw [← hA, ← ha]
    exact congrArg (fun f => nearest ideal (exponents.filterMap f)) (funext fun e => rfl)
  have e2 : B = b := by
    rw [← hB, ← hb]
    exact congrArg (fun f => exponents.find? f) (funext fun e => rfl)
  subst e1 e2
  clear ha hb hA hB
  cases A with
  | some p => cases p; rfl
  | none => cases B <;> rfl
theorem cand_val {n d c k : Nat} {E ideal : Int} (hd : 0 < d) (hv : Val n d c E) (hc : c % 10 ≠ 0) (hk : Dig c k) :
    nearest ideal (exponents.filterMap (candF n d)) =
      if max (-398) (E - (16 - (k : Int))) ≤ min 369 E then some (c * 10 ^ (E - clampIn (max (-398) (E - (16 - (k : Int)))) ideal (min 369 E)).toNat, clampIn (max (-398) (E - (16 - (k : Int)))) ideal (min 369 E)) else none := by
  refine near_all (k := fun e => c * 10 ^ (E - e).toNat) (by unfold LEAST; omega) (by unfold MOST; omega) fun e h1 h2 => ?_
  unfold LEAST at h1
  unfold MOST at h2
  unfold candF
  by_cases he : e ≤ E
  · obtain ⟨q1, q2⟩ := div_of_mul (hv.hi he) (sides_pos (n := n) (e := e) hd)
    rw [q1, q2]
    by_cases hb : c * 10 ^ (E - e).toNat < TOP
    · rw [if_pos ⟨rfl, hb⟩]
      have := (dig_top hk).mp hb
      rw [if_pos (by omega)]
    · rw [if_neg (fun z => hb z.2)]
      have : ¬ k + (E - e).toNat ≤ 16 := fun z => hb ((dig_top hk).mpr z)
      rw [if_neg (by omega)]
  · rw [if_neg (c := max (-398) (E - (16 - (k : Int))) ≤ e ∧ e ≤ min 369 E) (by omega)]
    have h3 := hv.lo (e := e) (by omega)
    refine if_neg fun z => ?_
    have h4 := mod_scale h3
    rw [z.1, Nat.zero_mul] at h4
    have h5 : c % 10 ^ (e - E).toNat = 0 := by
      rcases Nat.mul_eq_zero.mp h4.symm with q | q
      · have := sides_pos (n := n) (e := e) hd
        omega
      · exact q
    exact nodiv_pow hc (by omega) h5
theorem find_val {n d c k : Nat} {E : Int} (hd : 0 < d) (hv : Val n d c E) (hk : Dig c k) :
    exponents.find? (smallF n d) = if max (-398) (E - (16 - (k : Int))) ≤ 369 then some (max (-398) (E - (16 - (k : Int)))) else none := by
  refine find_all fun e h1 h2 => ?_
  unfold smallF
  by_cases he : e ≤ E
  · obtain ⟨q1, q2⟩ := div_of_mul (hv.hi he) (sides_pos (n := n) (e := e) hd)
    rw [q1]
    have := dig_top (j := (E - e).toNat) hk
    refine decide_eq_decide.mpr (this.trans ?_)
    omega
  · have h3 := hv.lo (e := e) (by omega)
    rw [div_scale h3 (sides_pos hd) (ten_pos _)]
    have := dig_div (j := (e - E).toNat) hk
    refine decide_eq_decide.mpr (this.trans ?_)
    omega
theorem fit_val {neg : Bool} {n d c k : Nat} {E ideal : Int} (hd : 0 < d) (hn : n ≠ 0) (hv : Val n d c E) (hc : c % 10 ≠ 0) (hk : Dig c k) :
    fit neg n d ideal = roundM neg c E ideal k := by
  rw [fit_of hn (cand_val hd hv hc hk) (find_val hd hv hk)]
  unfold roundM
  dsimp only
  have hk1 := hk.1
  by_cases hlh : max (-398) (E - (16 - (k : Int))) ≤ min 369 E
  · rw [if_pos hlh, if_neg (show ¬ (max (-398) (E - (16 - (k : Int))) > min 369 E) by omega)]
    rfl
  · rw [if_neg hlh, if_pos (show max (-398) (E - (16 - (k : Int))) > min 369 E by omega)]
    by_cases hm : max (-398) (E - (16 - (k : Int))) ≤ 369
    · rw [if_pos hm]
      show lastF neg n d _ = _
      have h3 := hv.lo (e := max (-398) (E - (16 - (k : Int)))) (by omega)
      have hdrop : max 0 (max ((k : Int) - 16) (-398 - E)) = max (-398) (E - (16 - (k : Int))) - E := by omega
      unfold lastF
      rw [halfEven_scale h3 (sides_pos hd) (ten_pos _)]
      unfold nearM
      dsimp only
      rw [hdrop]
      have hx : E + (max (-398) (E - (16 - (k : Int))) - E) = max (-398) (E - (16 - (k : Int))) := by omega
      rw [hx]
      refine settle ?_ hm
      refine halfEven_le (ten_pos _) ?_
      rw [TOP_eq, ← Nat.pow_add]
      exact Nat.lt_of_lt_of_le hk.2.2 (Nat.pow_le_pow_right (by decide) (by omega))
    · rw [if_neg hm]
      show Num.inf neg = _
      unfold nearM
      dsimp only
      rw [if_pos]
      split <;> omega
theorem fit_zero (neg : Bool) (d : Nat) (ideal : Int) : fit neg 0 d ideal = .fin neg 0 (clampIn (-398) ideal 369) := by
  unfold fit clamp clampIn LEAST MOST
  rw [if_pos rfl]
  congr 1
  omega
end DM
end
section
namespace DM
open Kg10
theorem dig_ex : ∀ (k c : Nat), 0 < c → c < 10 ^ k → ∃ j, Dig c j
  | 0, c, h0, h => by simp at h; omega
  | k + 1, c, h0, h => by
    by_cases q : c < 10 ^ k
    · exact dig_ex k c h0 q
    · exact ⟨k + 1, by omega, by simpa using q, h⟩
theorem lt_ten (c : Nat) : c < 10 ^ c := by
  induction c with
  | zero => decide
  | succ n ih => rw [Nat.pow_succ]; omega
theorem dig_some {c : Nat} (h : 0 < c) : ∃ j, Dig c j := dig_ex c c h (lt_ten c)
theorem strip_ex (c : Nat) : 0 < c → ∃ c' j, c = c' * 10 ^ j ∧ c' % 10 ≠ 0 := by
  induction c using Nat.strongRecOn with
  | _ c ih =>
    intro h
    by_cases q : c % 10 = 0
    · obtain ⟨c', j, e, hc⟩ := ih (c / 10) (by omega) (by omega)
      refine ⟨c', j + 1, ?_, hc⟩
      rw [Nat.pow_succ, ← Nat.mul_assoc, ← e]
      omega
    · exact ⟨c, 0, by simp, q⟩
theorem strip_pos {c c' j : Nat} (h : c = c' * 10 ^ j) (hc : 0 < c) : 0 < c' := by
  rcases Nat.eq_zero_or_pos c' with z | z
  · rw [z, Nat.zero_mul] at h; omega
  · exact z
theorem Val.ne {n d c : Nat} {E : Int} (h : Val n d c E) (hd : 0 < d) (hc : 0 < c) : n ≠ 0 := by
  intro z
  unfold Val at h
  rw [z, Nat.zero_mul] at h
  have := Nat.mul_pos (Nat.mul_pos hd hc) (ten_pos E.toNat)
  omega
theorem fit_congr {neg : Bool} {n d n' d' c : Nat} {E ideal : Int} (hd : 0 < d) (hd' : 0 < d') (hc : 0 < c) (h : Val n d c E) (h' : Val n' d' c E) : fit neg n d ideal = fit neg n' d' ideal := by
  obtain ⟨c', j, e, h10⟩ := strip_ex c hc
  obtain ⟨k, hk⟩ := dig_some (strip_pos e hc)
  rw [fit_val hd (h.ne hd hc) (h.strip e) h10 hk, fit_val hd' (h'.ne hd' hc) (h'.strip e) h10 hk]
theorem ratio_pos (c : Nat) (e : Int) : 0 < (ratio c e).2 := by
  rw [ratio_eq]
  exact ten_pos _
theorem round_of {neg : Bool} {c c' j k : Nat} {e ideal : Int} (hc : 0 < c) (h : c = c' * 10 ^ j) (h10 : c' % 10 ≠ 0) (hk : Dig c' k) :
    roundM neg c' (e + j) ideal k = fit neg (ratio c e).1 (ratio c e).2 ideal :=
  (fit_val (ratio_pos c e) ((val_ratio c e).ne (ratio_pos c e) hc) ((val_ratio c e).strip h) h10 hk).symm
def Btw (n d q : Nat) (F : Int) : Prop := (sides n d F).1 / (sides n d F).2 = q ∧ (sides n d F).1 % (sides n d F).2 ≠ 0
theorem sides_up {n d : Nat} {F e : Int} (h : F ≤ e) : (sides n d e).1 * ((sides n d F).2 * 10 ^ (e - F).toNat) = (sides n d e).2 * (sides n d F).1 := by
  rw [sides_eq, sides_eq]
  show n * 10 ^ (-e).toNat * (d * 10 ^ F.toNat * 10 ^ (e - F).toNat) = d * 10 ^ e.toNat * (n * 10 ^ (-F).toNat)
  have e1 : (10:Nat) ^ (-e).toNat * (10 ^ F.toNat * 10 ^ (e - F).toNat) = 10 ^ e.toNat * 10 ^ (-F).toNat := by
    rw [← Nat.pow_add, ← Nat.pow_add, ← Nat.pow_add]
    congr 1
    omega
  calc n * 10 ^ (-e).toNat * (d * 10 ^ F.toNat * 10 ^ (e - F).toNat) = n * d * (10 ^ (-e).toNat * (10 ^ F.toNat * 10 ^ (e - F).toNat)) := by ac_rfl
    _ = d * 10 ^ e.toNat * (n * 10 ^ (-F).toNat) := by rw [e1]; ac_rfl
theorem sides_dn {n d : Nat} {F e : Int} (h : e ≤ F) : (sides n d e).1 * (sides n d F).2 = (sides n d e).2 * ((sides n d F).1 * 10 ^ (F - e).toNat) := by
  have q := sides_up (n := n) (d := d) h
  calc (sides n d e).1 * (sides n d F).2 = (sides n d F).2 * (sides n d e).1 := Nat.mul_comm _ _
    _ = (sides n d F).1 * ((sides n d e).2 * 10 ^ (F - e).toNat) := q.symm
    _ = (sides n d e).2 * ((sides n d F).1 * 10 ^ (F - e).toNat) := by ac_rfl
theorem mod_mul' (a b T : Nat) : a % (b * T) = a % b + b * (a / b % T) := Nat.mod_mul
theorem half_btw {a b U : Nat} (hb : 0 < b) (hm : a % b ≠ 0) (hU : 0 < U) : halfEven a (b * (2 * U)) = if U ≤ a / b % (2 * U) then a / b / (2 * U) + 1 else a / b / (2 * U) := by
  unfold halfEven
  dsimp only
  rw [mod_mul', ← Nat.div_div_eq_div_mul]
  have h1 := Nat.mod_lt a hb
  generalize a % b = r at *
  generalize a / b % (2 * U) = v at *
  generalize a / b / (2 * U) = Q at *
  by_cases c : U ≤ v
  · rw [if_pos c, if_pos]
    left
    have : b * U ≤ b * v := Nat.mul_le_mul_left b c
    have e1 : b * (2 * U) = 2 * (b * U) := by ac_rfl
    omega
  · rw [if_neg c, if_neg]
    have h2 : b * (v + 1) ≤ b * U := Nat.mul_le_mul_left b (by omega)
    have e1 : b * (2 * U) = 2 * (b * U) := by ac_rfl
    have e2 : b * (v + 1) = b * v + b := by rw [Nat.mul_add, Nat.mul_one]
    intro z
    rcases z with z | ⟨z, _⟩ <;> omega
theorem ten_half {j : Nat} (h : 0 < j) : (10 : Nat) ^ j = 2 * (5 * 10 ^ (j - 1)) := by
  obtain ⟨i, rfl⟩ : ∃ i, j = i + 1 := ⟨j - 1, by omega⟩
  rw [Nat.pow_succ]
  show _ = 2 * (5 * 10 ^ (i + 1 - 1))
  rw [show i + 1 - 1 = i from rfl]
  omega
section
variable {n d q : Nat} {F : Int}
theorem Btw.cand (h : Btw n d q F) (hd : 0 < d) (hq : TOP ≤ q) (e : Int) : candF n d e = none := by
  unfold candF
  refine if_neg fun ⟨z1, z2⟩ => ?_
  by_cases he : F ≤ e
  · have h1 := sides_up (n := n) (d := d) he
    have h2 := mod_scale h1
    rw [z1, Nat.zero_mul] at h2
    rcases Nat.mul_eq_zero.mp h2.symm with q1 | q1
    · have := sides_pos (n := n) (e := e) hd
      omega
    · rw [mod_mul'] at q1
      exact h.2 (by omega)
  · have h1 := sides_dn (n := n) (d := d) (F := F) (e := e) (by omega)
    rw [div_scale h1 (sides_pos hd) (sides_pos hd)] at z2
    have h3 : (sides n d F).1 / (sides n d F).2 ≤ (sides n d F).1 * 10 ^ (F - e).toNat / (sides n d F).2 := Nat.div_le_div_right (Nat.le_mul_of_pos_right _ (ten_pos _))
    rw [h.1] at h3
    omega
theorem Btw.small (h : Btw n d q F) (hd : 0 < d) (hq : TOP ≤ q) (e : Int) : smallF n d e = decide (F ≤ e ∧ q / 10 ^ (e - F).toNat < TOP) := by
  unfold smallF
  refine decide_eq_decide.mpr ?_
  by_cases he : F ≤ e
  · rw [div_scale (sides_up (n := n) (d := d) he) (sides_pos hd) (Nat.mul_pos (sides_pos hd) (ten_pos _)), ← Nat.div_div_eq_div_mul, h.1]
    exact ⟨fun z => ⟨he, z⟩, fun z => z.2⟩
  · refine ⟨fun z2 => ?_, fun z => absurd z.1 he⟩
    have h1 := sides_dn (n := n) (d := d) (F := F) (e := e) (by omega)
    rw [div_scale h1 (sides_pos hd) (sides_pos hd)] at z2
    have h3 : (sides n d F).1 / (sides n d F).2 ≤ (sides n d F).1 * 10 ^ (F - e).toNat / (sides n d F).2 := Nat.div_le_div_right (Nat.le_mul_of_pos_right _ (ten_pos _))
    rw [h.1] at h3
    omega
theorem Btw.half (h : Btw n d q F) (hd : 0 < d) {e : Int} (he : F < e) :
    halfEven (sides n d e).1 (sides n d e).2 = if 5 * 10 ^ ((e - F).toNat - 1) ≤ q % 10 ^ (e - F).toNat then q / 10 ^ (e - F).toNat + 1 else q / 10 ^ (e - F).toNat := by
  rw [halfEven_scale (sides_up (n := n) (d := d) (Int.le_of_lt he)) (sides_pos hd) (Nat.mul_pos (sides_pos hd) (ten_pos _))]
  rw [ten_half (j := (e - F).toNat) (by omega), half_btw (sides_pos hd) h.2 (Nat.mul_pos (by decide) (ten_pos _)), h.1]
theorem Btw.ne (h : Btw n d q F) : n ≠ 0 := by
  intro z
  refine h.2 ?_
  rw [sides_eq, z, Nat.zero_mul]
  exact Nat.zero_mod _
def btwFind (q : Nat) (F : Int) : Option Int := exponents.find? fun e => decide (F ≤ e ∧ q / 10 ^ (e - F).toNat < TOP)
def btwLast (neg : Bool) (q : Nat) (F e : Int) : Num := settled neg (if 5 * 10 ^ ((e - F).toNat - 1) ≤ q % 10 ^ (e - F).toNat then q / 10 ^ (e - F).toNat + 1 else q / 10 ^ (e - F).toNat) e
theorem fm_none {α β : Type} : ∀ (l : List α), l.filterMap (fun _ => (none : Option β)) = []
  | [] => rfl
  | a :: l => by rw [List.filterMap_cons, fm_none l]
theorem near_none {ideal : Int} {g : Int → Option (Nat × Int)} (h : ∀ e, g e = none) : nearest ideal (exponents.filterMap g) = none := by
  rw [fm_congr (g := fun _ => none) fun e _ => h e, fm_none]
  rfl
theorem fin1_congr {neg : Bool} {r r' : Int → Num} {b : Option Int} (h : ∀ e, b = some e → r e = r' e) : fin1 neg r none b = fin1 neg r' none b := by
  cases b with
  | none => rfl
  | some e => exact h e rfl
theorem find_gt {q : Nat} {F e : Int} (hq : TOP ≤ q) (h : btwFind q F = some e) : F < e := by
  unfold btwFind at h
  have h1 := List.find?_some h
  have h2 : F ≤ e ∧ q / 10 ^ (e - F).toNat < TOP := by simpa using h1
  by_cases z : F = e
  · have h3 := h2.2
    rw [show (e - F).toNat = 0 by omega, Nat.pow_zero, Nat.div_one] at h3
    omega
  · omega
theorem Btw.fit {neg : Bool} {ideal : Int} (h : Btw n d q F) (hd : 0 < d) (hq : TOP ≤ q) : fit neg n d ideal = fin1 neg (btwLast neg q F) none (btwFind q F) := by
  have hb : exponents.find? (smallF n d) = btwFind q F := find_congr fun e _ => h.small hd hq e
  rw [fit_of h.ne (near_none fun e => h.cand hd hq e) hb]
  refine fin1_congr fun e he => ?_
  unfold lastF btwLast
  rw [h.half hd (find_gt hq he)]
end
theorem sides_ratio (c : Nat) (e F : Int) : (sides (ratio c e).1 (ratio c e).2 F).1 * 10 ^ (F - e).toNat = (sides (ratio c e).1 (ratio c e).2 F).2 * (c * 10 ^ (e - F).toNat) := by
  rw [sides_eq, ratio_eq]
  show c * 10 ^ e.toNat * 10 ^ (-F).toNat * 10 ^ (F - e).toNat = 10 ^ (-e).toNat * 10 ^ F.toNat * (c * 10 ^ (e - F).toNat)
  have e1 : (10:Nat) ^ e.toNat * (10 ^ (-F).toNat * 10 ^ (F - e).toNat) = 10 ^ (-e).toNat * (10 ^ F.toNat * 10 ^ (e - F).toNat) := by
    rw [← Nat.pow_add, ← Nat.pow_add, ← Nat.pow_add, ← Nat.pow_add]
    congr 1
    omega
  calc c * 10 ^ e.toNat * 10 ^ (-F).toNat * 10 ^ (F - e).toNat = c * (10 ^ e.toNat * (10 ^ (-F).toNat * 10 ^ (F - e).toNat)) := by ac_rfl
    _ = 10 ^ (-e).toNat * 10 ^ F.toNat * (c * 10 ^ (e - F).toNat) := by rw [e1]; ac_rfl
theorem btw_marked (q : Nat) (F : Int) : Btw (ratio (10 * q + 1) (F - 1)).1 (ratio (10 * q + 1) (F - 1)).2 q F := by
  have h := sides_ratio (10 * q + 1) (F - 1) F
  rw [show (F - (F - 1)).toNat = 1 by omega, show (F - 1 - F).toNat = 0 by omega, Nat.pow_zero, Nat.mul_one] at h
  have hp := sides_pos (n := (ratio (10 * q + 1) (F - 1)).1) (e := F) (ratio_pos (10 * q + 1) (F - 1))
  refine ⟨?_, ?_⟩
  · rw [div_scale h hp (by decide)]
    omega
  · intro z
    have h2 := mod_scale h
    rw [z, Nat.zero_mul] at h2
    rcases Nat.mul_eq_zero.mp h2.symm with q1 | q1
    · omega
    · omega
theorem sides_over (c d : Nat) (e f : Int) (hd : 0 < d) :
    (sides ((ratio c e).1 * (ratio d f).2) ((ratio c e).2 * (ratio d f).1) (e - f - 40)).1 * d = (sides ((ratio c e).1 * (ratio d f).2) ((ratio c e).2 * (ratio d f).1) (e - f - 40)).2 * (c * 10 ^ 40) := by
  rw [sides_eq, ratio_eq, ratio_eq]
  show c * 10 ^ e.toNat * 10 ^ (-f).toNat * 10 ^ (-(e - f - 40)).toNat * d = 10 ^ (-e).toNat * (d * 10 ^ f.toNat) * 10 ^ (e - f - 40).toNat * (c * 10 ^ 40)
  have e1 : (10:Nat) ^ e.toNat * (10 ^ (-f).toNat * 10 ^ (-(e - f - 40)).toNat) = 10 ^ (-e).toNat * (10 ^ f.toNat * (10 ^ (e - f - 40).toNat * 10 ^ 40)) := by
    rw [← Nat.pow_add, ← Nat.pow_add, ← Nat.pow_add, ← Nat.pow_add, ← Nat.pow_add]
    congr 1
    omega
  calc c * 10 ^ e.toNat * 10 ^ (-f).toNat * 10 ^ (-(e - f - 40)).toNat * d = c * d * (10 ^ e.toNat * (10 ^ (-f).toNat * 10 ^ (-(e - f - 40)).toNat)) := by ac_rfl
    _ = c * d * (10 ^ (-e).toNat * (10 ^ f.toNat * (10 ^ (e - f - 40).toNat * 10 ^ 40))) := by rw [e1]
    _ = 10 ^ (-e).toNat * (d * 10 ^ f.toNat) * 10 ^ (e - f - 40).toNat * (c * 10 ^ 40) := by
      generalize (10 : Nat) ^ 40 = G
      ac_rfl
theorem val_of_sides {n d c : Nat} {F : Int} (h : (sides n d F).1 = (sides n d F).2 * c) : Val n d c F := by
  rw [sides_eq] at h
  unfold Val
  have h : n * 10 ^ (-F).toNat = d * 10 ^ F.toNat * c := h
  rw [h]
  ac_rfl
theorem over_marked {neg : Bool} {c d : Nat} {e f : Int} (hd : 0 < d) (hd' : d < TOP) :
    fit neg (ratio (10 * (c * 10 ^ 40 / d) + (if c * 10 ^ 40 % d > 0 then 1 else 0)) (e - f - 41)).1 (ratio (10 * (c * 10 ^ 40 / d) + (if c * 10 ^ 40 % d > 0 then 1 else 0)) (e - f - 41)).2 (e - f) =
      fit neg ((ratio c e).1 * (ratio d f).2) ((ratio c e).2 * (ratio d f).1) (e - f) := by
  have hD : 0 < (ratio c e).2 * (ratio d f).1 := by
    rw [ratio_eq, ratio_eq]
    exact Nat.mul_pos (ten_pos _) (Nat.mul_pos hd (ten_pos _))
  have hs := sides_over c d e f hd
  have hp := sides_pos (n := (ratio c e).1 * (ratio d f).2) (e := e - f - 40) hD
  rcases Nat.eq_zero_or_pos c with hc | hc
  · subst hc
    have e1 : (ratio 0 e).1 = 0 := by rw [ratio_eq]; exact Nat.zero_mul _
    have e2 : 10 * (0 * 10 ^ 40 / d) + (if 0 * 10 ^ 40 % d > 0 then 1 else 0) = 0 := by
      rw [Nat.zero_mul, Nat.zero_div, Nat.zero_mod]
      rfl
    have e3 : (ratio 0 (e - f - 41)).1 = 0 := by rw [ratio_eq]; exact Nat.zero_mul _
    rw [e2, e3, e1, Nat.zero_mul, fit_zero, fit_zero]
  · by_cases hr : c * 10 ^ 40 % d > 0
    · rw [if_pos hr]
      have hb := btw_marked (c * 10 ^ 40 / d) (e - f - 40)
      rw [show e - f - 40 - 1 = e - f - 41 by omega] at hb
      have hq : TOP ≤ c * 10 ^ 40 / d := by
        rw [Nat.le_div_iff_mul_le hd]
        have h1 : TOP * d ≤ TOP * TOP := Nat.mul_le_mul_left _ (Nat.le_of_lt hd')
        have h2 : TOP * TOP ≤ 10 ^ 40 := by decide
        have h3 : 10 ^ 40 ≤ c * 10 ^ 40 := Nat.le_mul_of_pos_left _ hc
        exact Nat.le_trans h1 (Nat.le_trans h2 h3)
      have hb2 : Btw ((ratio c e).1 * (ratio d f).2) ((ratio c e).2 * (ratio d f).1) (c * 10 ^ 40 / d) (e - f - 40) := by
        refine ⟨div_scale hs hp hd, fun z => ?_⟩
        have h2 := mod_scale hs
        rw [z, Nat.zero_mul] at h2
        rcases Nat.mul_eq_zero.mp h2.symm with q1 | q1
        · omega
        · omega
      rw [hb.fit (ratio_pos _ _) hq, hb2.fit hD hq]
    · rw [if_neg hr, Nat.add_zero]
      have h0 : c * 10 ^ 40 % d = 0 := by omega
      have hdv : c * 10 ^ 40 = d * (c * 10 ^ 40 / d) := by
        have := Nat.div_add_mod (c * 10 ^ 40) d
        omega
      have hq : 0 < c * 10 ^ 40 / d := by
        rcases Nat.eq_zero_or_pos (c * 10 ^ 40 / d) with z | z
        · rw [z, Nat.mul_zero] at hdv
          have := Nat.mul_pos hc (ten_pos 40)
          omega
        · exact z
      have hv : Val ((ratio c e).1 * (ratio d f).2) ((ratio c e).2 * (ratio d f).1) (c * 10 ^ 40 / d) (e - f - 40) := by
        refine val_of_sides ?_
        rw [hdv] at hs
        rw [Nat.mul_left_comm, Nat.mul_comm] at hs
        exact Nat.eq_of_mul_eq_mul_left hd hs
      have hv2 : Val (ratio (10 * (c * 10 ^ 40 / d)) (e - f - 41)).1 (ratio (10 * (c * 10 ^ 40 / d)) (e - f - 41)).2 (c * 10 ^ 40 / d) (e - f - 40) := by
        have := (val_ratio (10 * (c * 10 ^ 40 / d)) (e - f - 41)).strip (c' := c * 10 ^ 40 / d) (k := 1) (by omega)
        rw [show e - f - 41 + ((1 : Nat) : Int) = e - f - 40 by omega] at this
        exact this
      exact fit_congr (ratio_pos _ _) hD hq hv2 hv
end DM
end
section
namespace DM
open Kg10
theorem decode_a {b : Nat} (hb : b < 2 ^ 64) (h : ¬ b / 2 ^ 61 % 4 = 3) : decode b = .fin (decide (b / 2 ^ 63 = 1)) (b % 2 ^ 53) (((b / 2 ^ 53 % 2 ^ 10 : Nat) : Int) + -398) := by
  unfold decode
  dsimp only
  have h58 : b / 2 ^ 61 = b / 2 ^ 58 / 8 := by rw [Nat.div_div_eq_div_mul]
  have n1 : ¬ b / 2 ^ 58 % 32 = 31 := by omega
  have n2 : ¬ b / 2 ^ 58 % 32 = 30 := by omega
  rw [if_neg n1, if_neg n2, if_neg h]
  have hc : b % 2 ^ 53 < TOP := Nat.lt_of_lt_of_le (Nat.mod_lt _ (by decide)) (by decide)
  rw [if_pos hc]
  have e1 : (b / 2 ^ 63 % 2 == 1) = decide (b / 2 ^ 63 = 1) := by
    have : b / 2 ^ 63 < 2 := by omega
    rw [Nat.mod_eq_of_lt this]
    rfl
  rw [e1]
  rfl
theorem decode_b {b : Nat} (hb : b < 2 ^ 64) (h : b / 2 ^ 61 % 4 = 3) (h2 : ¬ b / 2 ^ 59 % 4 = 3) :
    decode b = .fin (decide (b / 2 ^ 63 = 1)) (if 9999999999999999 < 2 ^ 53 + b % 2 ^ 51 then 0 else 2 ^ 53 + b % 2 ^ 51) (((b / 2 ^ 51 % 2 ^ 10 : Nat) : Int) + -398) := by
  unfold decode
  dsimp only
  have h59 : b / 2 ^ 59 = b / 2 ^ 58 / 2 := by rw [Nat.div_div_eq_div_mul]
  have n1 : ¬ b / 2 ^ 58 % 32 = 31 := by omega
  have n2 : ¬ b / 2 ^ 58 % 32 = 30 := by omega
  rw [if_neg n1, if_neg n2, if_pos h]
  have e1 : (b / 2 ^ 63 % 2 == 1) = decide (b / 2 ^ 63 = 1) := by
    have : b / 2 ^ 63 < 2 := by omega
    rw [Nat.mod_eq_of_lt this]
    rfl
  have e2 : (if 2 ^ 53 + b % 2 ^ 51 < TOP then 2 ^ 53 + b % 2 ^ 51 else 0) = (if 9999999999999999 < 2 ^ 53 + b % 2 ^ 51 then 0 else 2 ^ 53 + b % 2 ^ 51) := by
    have hT : TOP = 10000000000000000 := by decide
    rw [hT]
    generalize 2 ^ 53 + b % 2 ^ 51 = c
    by_cases q : 9999999999999999 < c
    · rw [if_pos q, if_neg (by omega)]
    · rw [if_neg q, if_pos (by omega)]
  rw [e1, e2]
  rfl
theorem decode_c {b : Nat} (h : b / 2 ^ 61 % 4 = 3) (h2 : b / 2 ^ 59 % 4 = 3) (h3 : b / 2 ^ 58 % 2 = 1) : decode b = .nan := by
  unfold decode
  dsimp only
  have h58 : b / 2 ^ 61 = b / 2 ^ 58 / 8 := by rw [Nat.div_div_eq_div_mul]
  have h59 : b / 2 ^ 59 = b / 2 ^ 58 / 2 := by rw [Nat.div_div_eq_div_mul]
  rw [if_pos (by omega)]
theorem decode_d {b : Nat} (hb : b < 2 ^ 64) (h : b / 2 ^ 61 % 4 = 3) (h2 : b / 2 ^ 59 % 4 = 3) (h3 : ¬ b / 2 ^ 58 % 2 = 1) : decode b = .inf (decide (b / 2 ^ 63 = 1)) := by
  unfold decode
  dsimp only
  have h58 : b / 2 ^ 61 = b / 2 ^ 58 / 8 := by rw [Nat.div_div_eq_div_mul]
  have h59 : b / 2 ^ 59 = b / 2 ^ 58 / 2 := by rw [Nat.div_div_eq_div_mul]
  rw [if_neg (show ¬ b / 2 ^ 58 % 32 = 31 by omega), if_pos (show b / 2 ^ 58 % 32 = 30 by omega)]
  have e1 : (b / 2 ^ 63 % 2 == 1) = decide (b / 2 ^ 63 = 1) := by
    have : b / 2 ^ 63 < 2 := by omega
    rw [Nat.mod_eq_of_lt this]
    rfl
  rw [e1]
def Fits : Num → Prop
  | .fin _ c e => c < TOP ∧ -398 ≤ e ∧ e ≤ 369
  | _ => True
theorem decode_fits {b : Nat} (hb : b < 2 ^ 64) : Fits (decode b) := by
  by_cases h : b / 2 ^ 61 % 4 = 3
  · by_cases h2 : b / 2 ^ 59 % 4 = 3
    · by_cases h3 : b / 2 ^ 58 % 2 = 1
      · rw [decode_c h h2 h3]; trivial
      · rw [decode_d hb h h2 h3]; trivial
    · rw [decode_b hb h h2]
      refine ⟨?_, by omega, ?_⟩
      · have hT : TOP = 10000000000000000 := by decide
        rw [hT]
        split <;> omega
      · have h51 : b / 2 ^ 59 = b / 2 ^ 51 / 256 := by rw [Nat.div_div_eq_div_mul]
        omega
  · rw [decode_a hb h]
    refine ⟨Nat.lt_of_lt_of_le (Nat.mod_lt _ (by decide)) (by decide), by omega, ?_⟩
    have h53 : b / 2 ^ 61 = b / 2 ^ 53 / 256 := by rw [Nat.div_div_eq_div_mul]
    omega
theorem roundM_fits {neg : Bool} {c k : Nat} {E ideal : Int} (hk : Dig c k) : Fits (roundM neg c E ideal k) := by
  unfold roundM
  dsimp only
  have hk1 := hk.1
  by_cases h : max (-398) (E - (16 - (k : Int))) > min 369 E
  · rw [if_pos h]
    unfold nearM
    dsimp only
    have hle : halfEven c (10 ^ (max 0 (max ((k : Int) - 16) (-398 - E))).toNat) ≤ TOP := by
      refine halfEven_le (ten_pos _) ?_
      rw [TOP_eq, ← Nat.pow_add]
      exact Nat.lt_of_lt_of_le hk.2.2 (Nat.pow_le_pow_right (by decide) (by omega))
    generalize halfEven c (10 ^ (max 0 (max ((k : Int) - 16) (-398 - E))).toNat) = kept at *
    have hT : TOP = 10 ^ 16 := rfl
    by_cases hq : kept = 10 ^ 16
    · rw [if_pos hq, if_pos hq]
      split
      · trivial
      · exact ⟨by decide, by omega, by omega⟩
    · rw [if_neg hq, if_neg hq]
      split
      · trivial
      · exact ⟨by omega, by omega, by omega⟩
  · rw [if_neg h]
    unfold clampIn
    refine ⟨?_, by omega, by omega⟩
    exact (dig_top hk).mpr (by omega)
theorem ratio_fits {neg : Bool} {c : Nat} {e ideal : Int} : Fits (fit neg (ratio c e).1 (ratio c e).2 ideal) := by
  rcases Nat.eq_zero_or_pos c with h | h
  · subst h
    rw [show (ratio 0 e).1 = 0 by rw [ratio_eq]; exact Nat.zero_mul _, fit_zero]
    unfold clampIn
    exact ⟨by decide, by omega, by omega⟩
  · obtain ⟨c', j, hc, h10⟩ := strip_ex c h
    obtain ⟨k, hk⟩ := dig_some (strip_pos hc h)
    rw [← round_of h hc h10 hk]
    exact roundM_fits hk
end DM
end
section
namespace DM
open Kg10
section
variable {c S : Nat} {e F x : Int}
end
end DM
end
section
namespace DM
open Kg10
section
variable {c S : Nat} {e F x : Int}
end
end DM
end
section
set_option linter.all false
set_option exponentiation.threshold 3000
namespace L2
open Kg10 DM
theorem At4.eq {C p : PySem.Addr} {H : Hp} {n n' : N4} (h : At4 C H p n) (e : n = n') : At4 C H p n' := e ▸ h
theorem b2_top {b : Nat} (hb : b < 2 ^ 64) : ((b : Int) / 2 ^ 63) = b2 (decide (b / 2 ^ 63 = 1)) := by
  unfold b2
  split <;> rename_i h <;> simp at h <;> omega
theorem wid_ten {k : Nat} (h : k < 2000) : Wid (10 ^ k) := by
  unfold Wid
  rw [Int.natAbs_pow]
  exact Nat.pow_lt_pow_right (by decide) h
theorem wid_nat {c : Nat} (h : c < 10 ^ 2000) : Wid (c : Int) := h
theorem wid_top {c : Nat} (h : c < TOP) : Wid (c : Int) := Nat.lt_trans h (Nat.pow_lt_pow_right (by decide) (by decide))
theorem str_len {n k : Nat} (h : Dig n k) : (PySem.Str.ofString (toString (n : Int))).length = k := by
  have e : PySem.Str.ofString (toString (n : Int)) = ⟨((Nat.toDigits 10 n).map Char.toNat).toArray⟩ := PyProof.Rows.text_ofNat n
  rw [e]
  show ((Nat.toDigits 10 n).map Char.toNat).toArray.size = k
  rw [List.size_toArray, List.length_map]
  obtain ⟨h1, h2, h3⟩ := h
  have a := PyProof.Rows.digits10_le h1 h3
  have b := PyProof.Rows.digits10_ge h2
  omega
theorem dig_le {n k m : Nat} (h : Dig n k) (hn : n < 10 ^ m) : k ≤ m := by
  obtain ⟨h1, h2, h3⟩ := h
  have := (Nat.pow_lt_pow_iff_right (a := 10) (by decide)).mp (Nat.lt_of_le_of_lt h2 hn)
  omega
theorem b2_inj {a b : Bool} (h : b2 a = b2 b) : a = b := by
  cases a <;> cases b <;> first | rfl | (exact absurd h (by decide))
theorem rep_inj {z z' : Num} {n : N4} (h : Rep z n) (h' : Rep z' n) : z = z' := by
  cases z <;> cases z' <;> simp only [Rep] at h h'
  · rw [h] at h'
    simp only [N4.mk.injEq, true_and] at h'
    obtain ⟨h1, h2, h3⟩ := h'
    rw [b2_inj h1, Int.ofNat_inj.mp h2, h3]
  · rw [h] at h'; simp at h'
  · rw [h] at h'; simp at h'
  · rw [h] at h'; simp at h'
  · rw [h] at h'
    simp only [N4.mk.injEq, true_and, and_true] at h'
    rw [b2_inj h']
  · rw [h] at h'; simp at h'
  · rw [h'] at h; simp at h
  · rw [h'] at h; simp at h
  · rfl
theorem NumZ.inj {C p : PySem.Addr} {H : Hp} {z z' : Num} (h : NumZ C H p z) (h' : NumZ C H p z') : z = z' := by
  obtain ⟨n, hn, r⟩ := h
  have := (ex_num hn (fun m => Rep z' m)).mp h'
  exact rep_inj r this
theorem ex_z {C p : PySem.Addr} {H : Hp} {z : Num} (h : NumZ C H p z) (R : Num → Prop) : (∃ z', NumZ C H p z' ∧ R z') ↔ R z :=
  ⟨fun ⟨z', h', r⟩ => h.inj h' ▸ r, fun r => ⟨z, h, r⟩⟩
theorem ex_fin {C p : PySem.Addr} {H : Hp} {a : Bool} {c : Nat} {e : Int} (h : NumZ C H p (.fin a c e)) (R : Bool → Nat → Int → Prop) : (∃ a' c' e', NumZ C H p (.fin a' c' e') ∧ R a' c' e') ↔ R a c e := by
  constructor
  · rintro ⟨a', c', e', h', r⟩
    have e1 := h.inj h'
    cases e1
    exact r
  · exact fun r => ⟨a, c, e, h, r⟩
theorem enc_fin (a : Bool) (c : Nat) (e : Int) : encode (.fin a c e) = a.toNat * 2 ^ 63 + (if c < 2 ^ 53 then (e + 398).toNat * 2 ^ 53 + c else 3 * 2 ^ 61 + (e + 398).toNat * 2 ^ 51 + (c - 2 ^ 53)) := rfl
theorem bitAnd_b2 (a b : Bool) : PySem.Builtin.bitAnd (b2 a) (b2 b) = b2 (a && b) := by
  cases a <;> cases b <;> decide +kernel
theorem bitXor_b2 (a b : Bool) : PySem.Builtin.bitXor (b2 a) (b2 b) = b2 (a != b) := by
  cases a <;> cases b <;> decide +kernel
def sideZ' : Num → Prop
  | .inf _ => True
  | _ => False
theorem big_le {c i : Nat} (h : c < TOP) (hi : i < 1000) : c * 10 ^ i < 10 ^ 1016 := by
  have h1 : c * 10 ^ i < 10 ^ 16 * 10 ^ i := Nat.mul_lt_mul_of_pos_right h (ten_pos i)
  rw [← Nat.pow_add] at h1
  exact Nat.lt_of_lt_of_le h1 (Nat.pow_le_pow_right (by decide) (by omega))
theorem sum_lt {a b : Bool} {c d i j : Nat} (hc : c < TOP) (hd : d < TOP) (hi : i < 1000) (hj : j < 1000) : ((if a then -1 else 1) * ((c * 10 ^ i : Nat) : Int) + (if b then -1 else 1) * ((d * 10 ^ j : Nat) : Int)).natAbs < 10 ^ 1900 := by
  have h1 := big_le hc hi
  have h2 := big_le hd hj
  have h3 : 2 * 10 ^ 1016 ≤ 10 ^ 1900 := Nat.le_trans (Nat.mul_le_mul_right _ (show 2 ≤ 10 ^ 1 by decide)) (by rw [← Nat.pow_add]; exact Nat.pow_le_pow_right (by decide) (by decide))
  generalize c * 10 ^ i = x at h1 ⊢
  generalize d * 10 ^ j = y at h2 ⊢
  generalize (10 : Nat) ^ 1900 = B at h3 ⊢
  generalize (10 : Nat) ^ 1016 = D at h1 h2 h3
  cases a <;> cases b <;> simp only [Bool.false_eq_true, if_true, if_false] <;> omega
theorem prod_lt {c d : Nat} (hc : c < TOP) (hd : d < TOP) : c * d < 10 ^ 1900 := by
  have h1 : c * d < 10 ^ 16 * 10 ^ 16 := Nat.mul_lt_mul'' hc hd
  rw [← Nat.pow_add] at h1
  exact Nat.lt_of_lt_of_le h1 (Nat.pow_le_pow_right (by decide) (by decide))
theorem quot_int (c d : Nat) : ((c : Int) * 10 ^ 40 / (d : Int)) * 10 + (if 0 < (c : Int) * 10 ^ 40 % (d : Int) then 1 else 0) = ((10 * (c * 10 ^ 40 / d) + (if c * 10 ^ 40 % d > 0 then 1 else 0) : Nat) : Int) := by
  have e1 : (c : Int) * 10 ^ 40 = ((c * 10 ^ 40 : Nat) : Int) := by simp
  rw [e1, ← Int.natCast_ediv, ← Int.natCast_emod]
  generalize c * 10 ^ 40 / d = x
  generalize c * 10 ^ 40 % d = y
  split <;> split <;> omega
theorem quot_lt {c d : Nat} (hc : c < TOP) : 10 * (c * 10 ^ 40 / d) + (if c * 10 ^ 40 % d > 0 then 1 else 0) < 10 ^ 1900 := by
  have h1 := big_le (i := 40) hc (by decide)
  have h2 : c * 10 ^ 40 / d ≤ c * 10 ^ 40 := Nat.div_le_self _ _
  have h3 : 100 * 10 ^ 1016 ≤ 10 ^ 1900 := Nat.le_trans (Nat.mul_le_mul_right _ (show 100 ≤ 10 ^ 2 by decide)) (by rw [← Nat.pow_add]; exact Nat.pow_le_pow_right (by decide) (by decide))
  have h4 : 0 < 10 ^ 1016 := ten_pos _
  generalize c * 10 ^ 40 / d = x at h2 ⊢
  generalize c * 10 ^ 40 = z at h1 h2 ⊢
  generalize (10 : Nat) ^ 1900 = B at h3 ⊢
  generalize (10 : Nat) ^ 1016 = D at h1 h3 h4
  split <;> omega
theorem add_fin (a b : Bool) (c d : Nat) (e f : Int) : add (.fin a c e) (.fin b d f) = if ((if a then -1 else 1) * ((c * 10 ^ (e - min e f).toNat : Nat) : Int) + (if b then -1 else 1) * ((d * 10 ^ (f - min e f).toNat : Nat) : Int)) = 0 then .fin (a && b) 0 (min e f) else
    fit (decide (((if a then -1 else 1) * ((c * 10 ^ (e - min e f).toNat : Nat) : Int) + (if b then -1 else 1) * ((d * 10 ^ (f - min e f).toNat : Nat) : Int)) < 0)) (ratio ((if a then -1 else 1) * ((c * 10 ^ (e - min e f).toNat : Nat) : Int) + (if b then -1 else 1) * ((d * 10 ^ (f - min e f).toNat : Nat) : Int)).natAbs (min e f)).1 (ratio ((if a then -1 else 1) * ((c * 10 ^ (e - min e f).toNat : Nat) : Int) + (if b then -1 else 1) * ((d * 10 ^ (f - min e f).toNat : Nat) : Int)).natAbs (min e f)).2 (min e f) := rfl
theorem over_fin (a b : Bool) (c d : Nat) (e f : Int) : over (.fin a c e) (.fin b d f) = if d = 0 then (if c = 0 then .nan else .inf (a != b)) else fit (a != b) ((ratio c e).1 * (ratio d f).2) ((ratio c e).2 * (ratio d f).1) (e - f) := rfl
theorem turn_fits {z : Num} (h : Fits z) : Fits (turn z) := by cases z <;> exact h
theorem add_fits {x y : Num} (hx : Fits x) (hy : Fits y) : Fits (add x y) := by
  cases x <;> cases y <;> try trivial
  · rename_i a c e b d f
    rw [add_fin]
    generalize ((if a then -1 else 1) * ((c * 10 ^ (e - min e f).toNat : Nat) : Int) + (if b then -1 else 1) * ((d * 10 ^ (f - min e f).toNat : Nat) : Int)) = t
    obtain ⟨f1, f2, f3⟩ := hx
    obtain ⟨f4, f5, f6⟩ := hy
    by_cases h : t = 0
    · rw [if_pos h]
      exact ⟨ten_pos 16, by omega, by omega⟩
    · rw [if_neg h]
      exact ratio_fits
  · rename_i a b
    by_cases h : a = b
    · rw [show add (.inf a) (.inf b) = .inf a from if_pos h]; trivial
    · rw [show add (.inf a) (.inf b) = .nan from if_neg h]; trivial
theorem mul_fits' {x y : Num} (hx : Fits x) (hy : Fits y) : Fits (mul x y) := by
  cases x <;> cases y <;> try trivial
  · rename_i a c e b d f
    rw [show mul (.fin a c e) (.fin b d f) = fit (a != b) (ratio (c * d) (e + f)).1 (ratio (c * d) (e + f)).2 (e + f) from rfl]
    exact ratio_fits
  · rename_i a c e b
    by_cases h : c = 0
    · rw [show mul (.fin a c e) (.inf b) = .nan from if_pos h]; trivial
    · rw [show mul (.fin a c e) (.inf b) = .inf (a != b) from if_neg h]; trivial
  · rename_i a b c e
    by_cases h : c = 0
    · rw [show mul (.inf a) (.fin b c e) = .nan from if_pos h]; trivial
    · rw [show mul (.inf a) (.fin b c e) = .inf (a != b) from if_neg h]; trivial
theorem over_fits {x y : Num} (hx : Fits x) (hy : Fits y) : Fits (over x y) := by
  cases x <;> cases y <;> try trivial
  · rename_i a c e b d f
    rw [over_fin]
    by_cases h : d = 0
    · rw [if_pos h]
      split <;> trivial
    · rw [if_neg h, ← over_marked (by omega) hy.1]
      exact ratio_fits
theorem eqQ {Q : VK} {H : Hp} {a b : Int} (h : Q (.int a) H) (e : a = b) : Q (.int b) H := e ▸ h
end L2
end
section
set_option linter.all false
set_option exponentiation.threshold 5000
namespace DM
open Kg10
theorem two_pos (k : Nat) : 0 < 2 ^ k := Nat.pow_pos (by decide)
def GeP (n d : Nat) (k : Int) : Prop := d * 2 ^ k.toNat ≤ n * 2 ^ (-k).toNat
theorem geP_at {n d : Nat} {k : Int} {a b : Nat} (h : (b : Int) - a = k) : d * 2 ^ b ≤ n * 2 ^ a ↔ GeP n d k := by
  unfold GeP
  obtain ⟨m, h1, h2⟩ : ∃ m, b = k.toNat + m ∧ a = (-k).toNat + m := ⟨b - k.toNat, by omega, by omega⟩
  rw [h1, h2, Nat.pow_add, Nat.pow_add, ← Nat.mul_assoc, ← Nat.mul_assoc]
  constructor
  · exact fun z => Nat.le_of_mul_le_mul_right z (two_pos m)
  · exact fun z => Nat.mul_le_mul_right _ z
theorem GeP.mono {n d : Nat} {k k' : Int} (h : GeP n d k') (hk : k ≤ k') : GeP n d k := by
  have h1 := (geP_at (n := n) (d := d) (k := k') (a := (-k).toNat + (-k').toNat) (b := (k' + ((-k).toNat + (-k').toNat)).toNat) (by omega)).mpr h
  refine (geP_at (a := (-k).toNat + (-k').toNat) (b := (k + ((-k).toNat + (-k').toNat)).toNat) (by omega)).mp (Nat.le_trans (Nat.mul_le_mul_left _ (Nat.pow_le_pow_right (by decide) (by omega))) h1)
theorem half_zero {c k d : Nat} (h : c < 10 ^ k) (hd : k < d) : halfEven c (10 ^ d) = 0 := by
  have h1 : 10 * 10 ^ k ≤ 10 ^ d := by
    rw [Nat.mul_comm, ← Nat.pow_succ]
    exact Nat.pow_le_pow_right (by decide) hd
  generalize 10 ^ k = x at *
  generalize 10 ^ d = y at *
  unfold halfEven
  dsimp only
  rw [Nat.div_eq_of_lt (by omega), Nat.mod_eq_of_lt (by omega), if_neg (by omega)]
end DM
end
section
set_option linter.all false
namespace DM
open Kg10
end DM
end
section
set_option linter.all false
set_option exponentiation.threshold 5000
namespace L2
open PySem PySem.Spec PyProof.Rows Kg10 DM
def DigZ (n k : Nat) : Prop := Dig n k ∨ (n = 0 ∧ k = 1)
theorem DigZ.lt {n k : Nat} (h : DigZ n k) : n < 10 ^ k := by
  rcases h with h | ⟨rfl, rfl⟩
  · exact h.2.2
  · decide
theorem digz_some (n : Nat) : ∃ k, DigZ n k := by
  by_cases h : n = 0
  · exact ⟨1, .inr ⟨h, rfl⟩⟩
  · obtain ⟨k, hk⟩ := dig_some (c := n) (by omega)
    exact ⟨k, .inl hk⟩
theorem digz_le {n k m : Nat} (h : DigZ n k) (hn : n < 10 ^ (m + 1)) : k ≤ m + 1 := by
  rcases h with h | ⟨rfl, rfl⟩
  · exact dig_le h hn
  · omega
theorem strz_len {n k : Nat} (h : DigZ n k) : (PySem.Str.ofString (toString (n : Int))).length = k := by
  rcases h with h | ⟨rfl, rfl⟩
  · exact str_len h
  · decide +kernel
theorem half_intD (c s : Nat) : (if (s : Int) < (c : Int) % s * 2 ∨ ((c : Int) % s * 2 = s ∧ (c : Int) / s % 2 = 1) then (c : Int) / s + 1 else (c : Int) / s) = (halfEven c s : Nat) := by
  unfold halfEven
  simp only [← Int.natCast_emod, ← Int.natCast_ediv]
  generalize c % s = r
  generalize c / s = q
  split <;> split <;> omega
section
variable {X : Cx}
end
end L2
end
section
set_option linter.all false
set_option maxRecDepth 100000
namespace L2
open PySem PySem.Spec PyProof.Rows Kg10 DM
section
variable {X : Cx} {st : Stmt} {rest : List Stmt} {t u : TS} {e o : Expr} {te to : TE} {pos : Pos}
end
section
variable {X : Cx} {k : Nat} {x : Str} {ps : List Str} {sp : Sp} {p pos : Pos} {e : Expr} {es : List Expr} {t : TA}
end
section
variable {P : Program} {w : World} {K : PySem.W.Frag} {mg : Str → Option Value} {base : Heap}
end
end L2
end
section
set_option linter.all false
set_option maxRecDepth 100000
set_option exponentiation.threshold 5000
namespace L2
open PySem PySem.Spec PyProof.Rows Kg10 DM TL
def AllDig (l : List Nat) : Bool := l.all fun c => decide (48 ≤ c) && decide (c ≤ 57)
theorem AllDig.all {l : List Nat} (h : AllDig l = true) : NumText.AllDigits l := fun c hc => by
  have := List.all_eq_true.mp h c hc
  rw [Bool.and_eq_true, decide_eq_true_eq, decide_eq_true_eq] at this
  exact this
def But (D : Addr) (H H' : Hp) : Prop := ∀ b o, b ≠ D → H b = some o → H' b = some o
theorem But.same {D : Addr} {H H1 H2 : Hp} (a : But D H H1) (b : Same H1 H2) : But D H H2 := fun c o n h => b c o (a c o n h)
end L2
end

namespace Dec
open PySem PySem.Spec PyProof.Rows L2 Kg10 DM
open PySem.W (Codec)
set_option Elab.async false
set_option linter.all false
set_option maxRecDepth 100000
set_option maxHeartbeats 2000000
set_option exponentiation.threshold 5000
def top (i : Nat) : Stmt := PySem.Challenge.pw_sixteendigits_s01_op.main.body.getD i (.Pass ⟨0, 0, 0, 0⟩)
section
variable {P : Program} {w : World} {K : PySem.W.Frag} {mg : Str → Option Value} {base : Heap}
abbrev s_init : Stmt := inClass (top 7) 0
theorem sc_init : FnScope psInit psInit (defScope s_init) := ⟨rfl, rfl, rfl, by decide +kernel, rfl, by decide +kernel, by decide +kernel⟩
theorem ok_init {f C : Addr} {fd : FuncData} (F : Fun K "__init__" "Number.__init__" s_init f fd) (T : NumC K C) : FnOk P w K mg base CX0 1 f fd psInit (spInit C) := by
  refine F.ok sc_init (fun vs H Q E h => ?_) (fun cdv A outer s H vs Q E hr h => ?_)
  · obtain ⟨p, dx, k, m, c, e, rfl, _⟩ := h
    rfl
  · obtain ⟨p, dx, k, m, c, e, rfl, hp, q⟩ := h
    refine ⟨_, pss_cons (ps_fld (pv 0) (pv 1) rfl) (pss_cons (ps_fld (pv 0) (pv 2) rfl) (pss_cons (ps_fld (pv 0) (pv 3) rfl) (pss_one (ps_fld (pv 0) (pv 4) rfl)))), ?_⟩
    refine ⟨_, rfl, _, rfl, p, C, dx, [], rfl, hp, T.cl, T.nk, (by show 0 < 1000; decide), ?_⟩
    refine ⟨_, rfl, _, rfl, p, C, dx, _, rfl, upd_same, T.cl, T.nm, (by show 1 < 1000; decide), ?_⟩
    refine ⟨_, rfl, _, rfl, p, C, dx, _, rfl, upd_same, T.cl, T.nc, (by show 2 < 1000; decide), ?_⟩
    refine ⟨_, rfl, _, rfl, p, C, dx, _, rfl, upd_same, T.cl, T.ne, (by show 3 < 1000; decide), ?_⟩
    refine q _ upd_same fun b o e hb => ?_
    rw [upd_ne hb, upd_ne hb, upd_ne hb, upd_ne hb]
    exact e
/-! ### finite -/
abbrev s_finite : Stmt := top 8
theorem sc_finite : FnScope ["minus", "coefficient", "exponent"] ["minus", "coefficient", "exponent"] (defScope s_finite) := ⟨rfl, rfl, rfl, by decide +kernel, rfl, by decide +kernel, by decide +kernel⟩
def sp_finite (C : Addr) : Sp := fun vs H Q _ => ∃ m c e : Int, vs = [.int m, .int c, .int e] ∧ ∀ (H' : Hp) (p : Addr), At4 C H' p ⟨0, m, c, e⟩ → Same H H' → Q (.ref p) H'
theorem ok_finite {f : Addr} {fd : FuncData} {C : Addr} (D : NumDef P w K mg base C) (g_FINITE : GI mg "FINITE" (0)) (F : Fun K "finite" "finite" s_finite f fd) : FnOk P w K mg base CX0 3 f fd ["minus", "coefficient", "exponent"] (sp_finite C) := by
  refine F.ok sc_finite (fun vs H Q E h => ?_) (fun cdv A outer s H vs Q E hr h => ?_)
  · obtain ⟨m, c, e, rfl, _⟩ := h
    rfl
  · obtain ⟨m, c, e, rfl, k⟩ := h
    refine ⟨_, (pss_one (ps_ret (pe_new D (hr.mono (by decide)) (pa_cons (pe_gi g_FINITE) (pa_cons (pv 0) (pa_cons (pv 1) (pa_cons (pv 2) pa_nil))))))), ?_⟩
    simp only [tSeq, tIfS, tTest, tOp, tUn, rI, rI0, rU, rEq, rNe, scal, tVar, tC, tRet, tAsg, gName, tCall, tCons, tNil, tNF, tNew, tIf, tB, tAnd, tOr, tNot, tAndV, tOrV, tNotV, tCB, tLst, tNext, tDrop, L2.start, Int.reduceToNat, List.map_cons, List.map_nil, List.length_cons, List.length_nil, List.replicate, Nat.reduceAdd, Nat.reduceSub, Nat.zero_add, Nat.add_zero, Nat.sub_self, List.replicate_zero, List.replicate_succ, List.cons_append, List.nil_append, List.append_nil, List.getElem?_cons_zero, List.getElem?_cons_succ, List.set_cons_zero, List.set_cons_succ, Option.some.injEq, exists_eq_left', exists_eq_left, exists_eq_right', V.int.injEq, V.ref.injEq, V.bl.injEq, V.str.injEq, List.cons.injEq, and_true, true_and, and_assoc, decide_eq_true_eq, Bool.not_eq_true', decide_eq_false_iff_not, ite_not, exists_and_left]
    exact k
/-! ### infinity -/
abbrev s_infinity : Stmt := top 9
theorem sc_infinity : FnScope ["minus"] ["minus"] (defScope s_infinity) := ⟨rfl, rfl, rfl, by decide +kernel, rfl, by decide +kernel, by decide +kernel⟩
def sp_infinity (C : Addr) : Sp := fun vs H Q _ => ∃ m : Int, vs = [.int m] ∧ ∀ (H' : Hp) (p : Addr), At4 C H' p ⟨1, m, 0, 0⟩ → Same H H' → Q (.ref p) H'
theorem ok_infinity {f : Addr} {fd : FuncData} {C : Addr} (D : NumDef P w K mg base C) (g_INFINITE : GI mg "INFINITE" (1)) (F : Fun K "infinity" "infinity" s_infinity f fd) : FnOk P w K mg base CX0 3 f fd ["minus"] (sp_infinity C) := by
  refine F.ok sc_infinity (fun vs H Q E h => ?_) (fun cdv A outer s H vs Q E hr h => ?_)
  · obtain ⟨m, rfl, _⟩ := h
    rfl
  · obtain ⟨m, rfl, k⟩ := h
    refine ⟨_, (pss_one (ps_ret (pe_new D (hr.mono (by decide)) (pa_cons (pe_gi g_INFINITE) (pa_cons (pv 0) (pa_cons pe_int (pa_cons pe_int pa_nil))))))), ?_⟩
    simp only [tSeq, tIfS, tTest, tOp, tUn, rI, rI0, rU, rEq, rNe, scal, tVar, tC, tRet, tAsg, gName, tCall, tCons, tNil, tNF, tNew, tIf, tB, tAnd, tOr, tNot, tAndV, tOrV, tNotV, tCB, tLst, tNext, tDrop, L2.start, Int.reduceToNat, List.map_cons, List.map_nil, List.length_cons, List.length_nil, List.replicate, Nat.reduceAdd, Nat.reduceSub, Nat.zero_add, Nat.add_zero, Nat.sub_self, List.replicate_zero, List.replicate_succ, List.cons_append, List.nil_append, List.append_nil, List.getElem?_cons_zero, List.getElem?_cons_succ, List.set_cons_zero, List.set_cons_succ, Option.some.injEq, exists_eq_left', exists_eq_left, exists_eq_right', V.int.injEq, V.ref.injEq, V.bl.injEq, V.str.injEq, List.cons.injEq, and_true, true_and, and_assoc, decide_eq_true_eq, Bool.not_eq_true', decide_eq_false_iff_not, ite_not, exists_and_left]
    exact k
/-! ### nan -/
abbrev s_nan : Stmt := top 10
theorem sc_nan : FnScope [] [] (defScope s_nan) := ⟨rfl, rfl, rfl, by decide +kernel, rfl, by decide +kernel, by decide +kernel⟩
def sp_nan (C : Addr) : Sp := fun vs H Q _ => vs = [] ∧ ∀ (H' : Hp) (p : Addr), At4 C H' p ⟨2, 0, 0, 0⟩ → Same H H' → Q (.ref p) H'
theorem ok_nan {f : Addr} {fd : FuncData} {C : Addr} (D : NumDef P w K mg base C) (g_NAN : GI mg "NAN" (2)) (F : Fun K "nan" "nan" s_nan f fd) : FnOk P w K mg base CX0 3 f fd [] (sp_nan C) := by
  refine F.ok sc_nan (fun vs H Q E h => ?_) (fun cdv A outer s H vs Q E hr h => ?_)
  · obtain ⟨rfl, _⟩ := h
    rfl
  · obtain ⟨rfl, k⟩ := h
    refine ⟨_, (pss_one (ps_ret (pe_new D (hr.mono (by decide)) (pa_cons (pe_gi g_NAN) (pa_cons pe_int (pa_cons pe_int (pa_cons pe_int pa_nil))))))), ?_⟩
    simp only [tSeq, tIfS, tTest, tOp, tUn, rI, rI0, rU, rEq, rNe, scal, tVar, tC, tRet, tAsg, gName, tCall, tCons, tNil, tNF, tNew, tIf, tB, tAnd, tOr, tNot, tAndV, tOrV, tNotV, tCB, tLst, tNext, tDrop, L2.start, Int.reduceToNat, List.map_cons, List.map_nil, List.length_cons, List.length_nil, List.replicate, Nat.reduceAdd, Nat.reduceSub, Nat.zero_add, Nat.add_zero, Nat.sub_self, List.replicate_zero, List.replicate_succ, List.cons_append, List.nil_append, List.append_nil, List.getElem?_cons_zero, List.getElem?_cons_succ, List.set_cons_zero, List.set_cons_succ, Option.some.injEq, exists_eq_left', exists_eq_left, exists_eq_right', V.int.injEq, V.ref.injEq, V.bl.injEq, V.str.injEq, List.cons.injEq, and_true, true_and, and_assoc, decide_eq_true_eq, Bool.not_eq_true', decide_eq_false_iff_not, ite_not, exists_and_left]
    exact k
/-! ### is_zero -/
abbrev s_is_zero : Stmt := top 11
theorem sc_is_zero : FnScope ["number"] ["number"] (defScope s_is_zero) := ⟨rfl, rfl, rfl, by decide +kernel, rfl, by decide +kernel, by decide +kernel⟩
def isZ : Num → Bool
  | .fin _ c _ => decide (c = 0)
  | _ => false
def sp_is_zero (C : Addr) : Sp := fun vs H Q _ => ∃ p : Addr, vs = [.ref p] ∧ ∃ z : Num, NumZ C H p z ∧ Q (.bl (isZ z)) H
theorem ok_is_zero {f : Addr} {fd : FuncData} {C : Addr} (T : NumC K C) (g_FINITE : GI mg "FINITE" (0)) (F : Fun K "is_zero" "is_zero" s_is_zero f fd) : FnOk P w K mg base CX0 1 f fd ["number"] (sp_is_zero C) := by
  refine F.ok sc_is_zero (fun vs H Q E h => ?_) (fun cdv A outer s H vs Q E hr h => ?_)
  · obtain ⟨p, rfl, _⟩ := h
    rfl
  · obtain ⟨p, rfl, z, hz, k⟩ := h
    refine ⟨_, (pss_one (ps_ret (pe_and (pe_cmpR op_eq (pe_k T (pv 0)) (pe_gi g_FINITE) (nomark _)) (pe_one (pe_cmpR op_eq (pe_c T (pv 0)) pe_int (nomark _)))))), ?_⟩
    cases z with
    | nan =>
      obtain ⟨m, c, e, hA⟩ := hz.nan
      simp (decide := true) only [tSeq, tIfS, tTest, tOp, tUn, rI, rI0, rU, rEq, rNe, scal, tVar, tC, tRet, tAsg, gName, tCall, tCons, tNil, tNF, tNew, tIf, tB, tAnd, tOr, tNot, tAndV, tOrV, tNotV, tCB, tLst, tNext, tDrop, L2.start, Int.reduceToNat, List.map_cons, List.map_nil, List.length_cons, List.length_nil, List.replicate, Nat.reduceAdd, Nat.reduceSub, Nat.zero_add, Nat.add_zero, Nat.sub_self, List.replicate_zero, List.replicate_succ, List.cons_append, List.nil_append, List.append_nil, List.getElem?_cons_zero, List.getElem?_cons_succ, List.set_cons_zero, List.set_cons_succ, Option.some.injEq, exists_eq_left', exists_eq_left, exists_eq_right', V.int.injEq, V.ref.injEq, V.bl.injEq, V.str.injEq, List.cons.injEq, and_true, true_and, and_assoc, decide_eq_true_eq, Bool.not_eq_true', decide_eq_false_iff_not, ite_not, exists_and_left, ex_num hA, if_false]
      exact k
    | inf a =>
      have hA := hz.inf
      simp (decide := true) only [tSeq, tIfS, tTest, tOp, tUn, rI, rI0, rU, rEq, rNe, scal, tVar, tC, tRet, tAsg, gName, tCall, tCons, tNil, tNF, tNew, tIf, tB, tAnd, tOr, tNot, tAndV, tOrV, tNotV, tCB, tLst, tNext, tDrop, L2.start, Int.reduceToNat, List.map_cons, List.map_nil, List.length_cons, List.length_nil, List.replicate, Nat.reduceAdd, Nat.reduceSub, Nat.zero_add, Nat.add_zero, Nat.sub_self, List.replicate_zero, List.replicate_succ, List.cons_append, List.nil_append, List.append_nil, List.getElem?_cons_zero, List.getElem?_cons_succ, List.set_cons_zero, List.set_cons_succ, Option.some.injEq, exists_eq_left', exists_eq_left, exists_eq_right', V.int.injEq, V.ref.injEq, V.bl.injEq, V.str.injEq, List.cons.injEq, and_true, true_and, and_assoc, decide_eq_true_eq, Bool.not_eq_true', decide_eq_false_iff_not, ite_not, exists_and_left, ex_num hA, if_false]
      exact k
    | fin a c e =>
      have hA := hz.fin
      simp (decide := true) only [tSeq, tIfS, tTest, tOp, tUn, rI, rI0, rU, rEq, rNe, scal, tVar, tC, tRet, tAsg, gName, tCall, tCons, tNil, tNF, tNew, tIf, tB, tAnd, tOr, tNot, tAndV, tOrV, tNotV, tCB, tLst, tNext, tDrop, L2.start, Int.reduceToNat, List.map_cons, List.map_nil, List.length_cons, List.length_nil, List.replicate, Nat.reduceAdd, Nat.reduceSub, Nat.zero_add, Nat.add_zero, Nat.sub_self, List.replicate_zero, List.replicate_succ, List.cons_append, List.nil_append, List.append_nil, List.getElem?_cons_zero, List.getElem?_cons_succ, List.set_cons_zero, List.set_cons_succ, Option.some.injEq, exists_eq_left', exists_eq_left, exists_eq_right', V.int.injEq, V.ref.injEq, V.bl.injEq, V.str.injEq, List.cons.injEq, and_true, true_and, and_assoc, decide_eq_true_eq, Bool.not_eq_true', decide_eq_false_iff_not, ite_not, exists_and_left, ex_num hA, if_true]
      have e1 : decide ((c : Int) = 0) = decide (c = 0) := decide_eq_decide.mpr (by omega)
      rw [e1]
      exact k
/-! ### exponent_of -/
abbrev s_exponent_of : Stmt := top 13
theorem sc_exponent_of : FnScope ["field"] ["field"] (defScope s_exponent_of) := ⟨rfl, rfl, rfl, by decide +kernel, rfl, by decide +kernel, by decide +kernel⟩
def sp_exponent_of : Sp := fun vs H Q _ => ∃ n : Int, vs = [.int n] ∧ Q (.int (n + -398)) H
theorem ok_exponent_of {f : Addr} {fd : FuncData} (g_LOWEST_EXPONENT : GI mg "LOWEST_EXPONENT" (-398)) (F : Fun K "exponent_of" "exponent_of" s_exponent_of f fd) : FnOk P w K mg base CX0 1 f fd ["field"] sp_exponent_of := by
  refine F.ok sc_exponent_of (fun vs H Q E h => ?_) (fun cdv A outer s H vs Q E hr h => ?_)
  · obtain ⟨n, rfl, _⟩ := h
    rfl
  · obtain ⟨n, rfl, k⟩ := h
    refine ⟨_, (pss_one (ps_ret (pe_op op_add (pv 0) (pe_gi g_LOWEST_EXPONENT)))), ?_⟩
    simp only [tSeq, tIfS, tTest, tOp, tUn, rI, rI0, rU, rEq, rNe, scal, tVar, tC, tRet, tAsg, gName, tCall, tCons, tNil, tNF, tNew, tIf, tB, tAnd, tOr, tNot, tAndV, tOrV, tNotV, tCB, tLst, tNext, tDrop, L2.start, Int.reduceToNat, List.map_cons, List.map_nil, List.length_cons, List.length_nil, List.replicate, Nat.reduceAdd, Nat.reduceSub, Nat.zero_add, Nat.add_zero, Nat.sub_self, List.replicate_zero, List.replicate_succ, List.cons_append, List.nil_append, List.append_nil, List.getElem?_cons_zero, List.getElem?_cons_succ, List.set_cons_zero, List.set_cons_succ, Option.some.injEq, exists_eq_left', exists_eq_left, exists_eq_right', V.int.injEq, V.ref.injEq, V.bl.injEq, V.str.injEq, List.cons.injEq, and_true, true_and, and_assoc, decide_eq_true_eq, Bool.not_eq_true', decide_eq_false_iff_not, ite_not, exists_and_left]
    exact k
/-! ### number_of -/
abbrev s_number_of : Stmt := top 12
theorem sc_number_of : FnScope ["bits", "minus", "coefficient"] ["bits"] (defScope s_number_of) := ⟨rfl, rfl, rfl, by decide +kernel, rfl, by decide +kernel, by decide +kernel⟩
def sp_number_of (C : Addr) : Sp := fun vs H Q _ => ∃ b : Int, vs = [.int b] ∧ 0 ≤ b ∧ b < 2 ^ 64 ∧ ∀ (H' : Hp) (p : Addr), NumZ C H' p (decode b.toNat) → Same H H' → Q (.ref p) H'
theorem ok_number_of {f : Addr} {fd : FuncData} {C : Addr} (g_LARGEST_COEFFICIENT : GI mg "LARGEST_COEFFICIENT" (9999999999999999)) (d_infinity : Def P w K mg base "infinity" 3 ["minus"] (sp_infinity C)) (d_finite : Def P w K mg base "finite" 3 ["minus", "coefficient", "exponent"] (sp_finite C)) (d_nan : Def P w K mg base "nan" 3 [] (sp_nan C)) (d_exponent_of : Def P w K mg base "exponent_of" 1 ["field"] sp_exponent_of) (F : Fun K "number_of" "number_of" s_number_of f fd) : FnOk P w K mg base CX0 4 f fd ["bits"] (sp_number_of C) := by
  refine F.ok sc_number_of (fun vs H Q E h => ?_) (fun cdv A outer s H vs Q E hr h => ?_)
  · obtain ⟨n, rfl, _⟩ := h
    rfl
  · obtain ⟨n, rfl, h0, h1, k⟩ := h
    refine ⟨_, (pss_cons (ps_set (i := 1) sc_number_of.nd rfl (Or.inl rfl) (pe_op op_shr (pv 0) pe_int)) (pss_cons (ps_if (pt_cmpR op_ne (pe_op op_and (pe_op op_shr (pv 0) pe_int) pe_int) pe_int (nomark _)) (pss_one (ps_ret (pe_def d_finite (hr.mono (by decide)) (pa_cons (pv 1) (pa_cons (pe_op op_mod (pv 0) (pe_op op_pow pe_int pe_int)) (pa_cons (pe_def d_exponent_of (hr.mono (by decide)) (pa_cons (pe_op op_mod (pe_op op_shr (pv 0) pe_int) (pe_op op_pow pe_int pe_int)) pa_nil)) pa_nil)))))) pss_nil) (pss_cons (ps_if (pt_cmpR op_ne (pe_op op_and (pe_op op_shr (pv 0) pe_int) pe_int) pe_int (nomark _)) (pss_cons (ps_set (i := 2) sc_number_of.nd rfl (Or.inl rfl) (pe_op op_add (pe_op op_pow pe_int pe_int) (pe_op op_mod (pv 0) (pe_op op_pow pe_int pe_int)))) (pss_cons (ps_if (pt_cmpR op_gt (pv 2) (pe_gi g_LARGEST_COEFFICIENT) (nomark _)) (pss_one (ps_set (i := 2) sc_number_of.nd rfl (Or.inl rfl) pe_int)) pss_nil) (pss_one (ps_ret (pe_def d_finite (hr.mono (by decide)) (pa_cons (pv 1) (pa_cons (pv 2) (pa_cons (pe_def d_exponent_of (hr.mono (by decide)) (pa_cons (pe_op op_mod (pe_op op_shr (pv 0) pe_int) (pe_op op_pow pe_int pe_int)) pa_nil)) pa_nil)))))))) pss_nil) (pss_cons (ps_if (pt_cmpR op_eq (pe_op op_and (pe_op op_shr (pv 0) pe_int) pe_int) pe_int (nomark _)) (pss_one (ps_ret (pe_def0 d_nan (hr.mono (by decide))))) pss_nil) (pss_one (ps_ret (pe_def d_infinity (hr.mono (by decide)) (pa_cons (pv 1) pa_nil)))))))), ?_⟩
    simp (decide := true) only [tSeq, tIfS, tTest, tOp, tUn, rI, rI0, rU, rEq, rNe, scal, tVar, tC, tRet, tAsg, gName, tCall, tCons, tNil, tNF, tNew, tIf, tB, tAnd, tOr, tNot, tAndV, tOrV, tNotV, tCB, tLst, tNext, tDrop, L2.start, Int.reduceToNat, List.map_cons, List.map_nil, List.length_cons, List.length_nil, List.replicate, Nat.reduceAdd, Nat.reduceSub, Nat.zero_add, Nat.add_zero, Nat.sub_self, List.replicate_zero, List.replicate_succ, List.cons_append, List.nil_append, List.append_nil, List.getElem?_cons_zero, List.getElem?_cons_succ, List.set_cons_zero, List.set_cons_succ, Option.some.injEq, exists_eq_left', exists_eq_left, exists_eq_right', V.int.injEq, V.ref.injEq, V.bl.injEq, V.str.injEq, List.cons.injEq, and_true, true_and, and_assoc, decide_eq_true_eq, Bool.not_eq_true', decide_eq_false_iff_not, ite_not, exists_and_left, CPow, sp_finite, sp_infinity, sp_nan, sp_exponent_of, bitAnd_m2, bitAnd_m1]
    obtain ⟨b, rfl⟩ : ∃ b : Nat, n = b := ⟨n.toNat, by omega⟩
    have hb : b < 2 ^ 64 := by omega
    rw [Int.toNat_natCast] at k
    refine ite2 (fun c1 => ite2 (fun c2 => ite2 (fun c3 => ?_) (fun c3 => ?_)) (fun c2 => ite2 (fun c3 => ?_) (fun c3 => ?_))) (fun c1 => ?_)
    · intro H' p hA hS
      refine k H' p ?_ hS
      rw [decode_c (by omega) (by omega) (by omega)]
      exact hA.nan
    · intro H' p hA hS
      refine k H' p ?_ hS
      rw [decode_d hb (by omega) (by omega) (by omega)]
      exact (hA.eq (by rw [b2_top hb])).inf
    · intro H' p hA hS
      refine k H' p ?_ hS
      rw [decode_b hb (by omega) (by omega), if_pos (by omega)]
      exact (hA.eq (by rw [b2_top hb]; rfl)).fin
    · intro H' p hA hS
      refine k H' p ?_ hS
      rw [decode_b hb (by omega) (by omega), if_neg (by omega)]
      exact (hA.eq (by rw [b2_top hb]; rfl)).fin
    · intro H' p hA hS
      refine k H' p ?_ hS
      rw [decode_a hb (by omega)]
      exact (hA.eq (by rw [b2_top hb]; rfl)).fin
/-! ### bits_of -/
abbrev s_bits_of : Stmt := top 14
theorem sc_bits_of : FnScope ["number", "sign", "field"] ["number"] (defScope s_bits_of) := ⟨rfl, rfl, rfl, by decide +kernel, rfl, by decide +kernel, by decide +kernel⟩
def sp_bits_of (C : Addr) : Sp := fun vs H Q _ => ∃ p : Addr, vs = [.ref p] ∧ ∃ z : Num, NumZ C H p z ∧ Fits z ∧ Q (.int (encode z : Nat)) H
theorem ok_bits_of {f : Addr} {fd : FuncData} {C : Addr} (T : NumC K C) (g_NAN : GI mg "NAN" (2)) (g_INFINITE : GI mg "INFINITE" (1)) (g_LOWEST_EXPONENT : GI mg "LOWEST_EXPONENT" (-398)) (F : Fun K "bits_of" "bits_of" s_bits_of f fd) : FnOk P w K mg base CX0 1 f fd ["number"] (sp_bits_of C) := by
  refine F.ok sc_bits_of (fun vs H Q E h => ?_) (fun cdv A outer s H vs Q E hr h => ?_)
  · obtain ⟨p, rfl, _⟩ := h
    rfl
  · obtain ⟨p, rfl, z, hz, hf, k⟩ := h
    refine ⟨_, (pss_cons (ps_if (pt_cmpR op_eq (pe_k T (pv 0)) (pe_gi g_NAN) (nomark _)) (pss_one (ps_ret (pe_op op_shl pe_int pe_int))) pss_nil) (pss_cons (ps_set (i := 1) sc_bits_of.nd rfl (Or.inl rfl) (pe_op op_shl (pe_m T (pv 0)) pe_int)) (pss_cons (ps_if (pt_cmpR op_eq (pe_k T (pv 0)) (pe_gi g_INFINITE) (nomark _)) (pss_one (ps_ret (pe_op op_add (pv 1) (pe_op op_shl pe_int pe_int)))) pss_nil) (pss_cons (ps_set (i := 2) sc_bits_of.nd rfl (Or.inl rfl) (pe_op op_sub (pe_e T (pv 0)) (pe_gi g_LOWEST_EXPONENT))) (pss_cons (ps_if (pt_cmpR op_lt (pe_c T (pv 0)) (pe_op op_pow pe_int pe_int) (nomark _)) (pss_one (ps_ret (pe_op op_add (pe_op op_add (pv 1) (pe_op op_shl (pv 2) pe_int)) (pe_c T (pv 0))))) pss_nil) (pss_one (ps_ret (pe_op op_sub (pe_op op_add (pe_op op_add (pe_op op_add (pv 1) (pe_op op_shl pe_int pe_int)) (pe_op op_shl (pv 2) pe_int)) (pe_c T (pv 0))) (pe_op op_pow pe_int pe_int))))))))), ?_⟩
    cases z with
    | nan =>
      obtain ⟨m, c, e, hA⟩ := hz.nan
      simp (decide := true) only [tSeq, tIfS, tTest, tOp, tUn, rI, rI0, rU, rEq, rNe, scal, tVar, tC, tRet, tAsg, gName, tCall, tCons, tNil, tNF, tNew, tIf, tB, tAnd, tOr, tNot, tAndV, tOrV, tNotV, tCB, tLst, tNext, tDrop, L2.start, Int.reduceToNat, List.map_cons, List.map_nil, List.length_cons, List.length_nil, List.replicate, Nat.reduceAdd, Nat.reduceSub, Nat.zero_add, Nat.add_zero, Nat.sub_self, List.replicate_zero, List.replicate_succ, List.cons_append, List.nil_append, List.append_nil, List.getElem?_cons_zero, List.getElem?_cons_succ, List.set_cons_zero, List.set_cons_succ, Option.some.injEq, exists_eq_left', exists_eq_left, exists_eq_right', V.int.injEq, V.ref.injEq, V.bl.injEq, V.str.injEq, List.cons.injEq, and_true, true_and, and_assoc, decide_eq_true_eq, Bool.not_eq_true', decide_eq_false_iff_not, ite_not, exists_and_left, ex_num hA, CPow, if_true]
      exact eqQ k (by decide +kernel)
    | inf a =>
      have hA := hz.inf
      simp (decide := true) only [tSeq, tIfS, tTest, tOp, tUn, rI, rI0, rU, rEq, rNe, scal, tVar, tC, tRet, tAsg, gName, tCall, tCons, tNil, tNF, tNew, tIf, tB, tAnd, tOr, tNot, tAndV, tOrV, tNotV, tCB, tLst, tNext, tDrop, L2.start, Int.reduceToNat, List.map_cons, List.map_nil, List.length_cons, List.length_nil, List.replicate, Nat.reduceAdd, Nat.reduceSub, Nat.zero_add, Nat.add_zero, Nat.sub_self, List.replicate_zero, List.replicate_succ, List.cons_append, List.nil_append, List.append_nil, List.getElem?_cons_zero, List.getElem?_cons_succ, List.set_cons_zero, List.set_cons_succ, Option.some.injEq, exists_eq_left', exists_eq_left, exists_eq_right', V.int.injEq, V.ref.injEq, V.bl.injEq, V.str.injEq, List.cons.injEq, and_true, true_and, and_assoc, decide_eq_true_eq, Bool.not_eq_true', decide_eq_false_iff_not, ite_not, exists_and_left, ex_num hA, CPow, if_true, if_false]
      cases a <;> exact ⟨by decide +kernel, eqQ k (by decide +kernel)⟩
    | fin a c e =>
      have hA := hz.fin
      obtain ⟨f1, f2, f3⟩ := hf
      have f1 : c < 10 ^ 16 := f1
      by_cases c1 : (c : Int) < 2 ^ 53
      · simp (decide := true) only [tSeq, tIfS, tTest, tOp, tUn, rI, rI0, rU, rEq, rNe, scal, tVar, tC, tRet, tAsg, gName, tCall, tCons, tNil, tNF, tNew, tIf, tB, tAnd, tOr, tNot, tAndV, tOrV, tNotV, tCB, tLst, tNext, tDrop, L2.start, Int.reduceToNat, List.map_cons, List.map_nil, List.length_cons, List.length_nil, List.replicate, Nat.reduceAdd, Nat.reduceSub, Nat.zero_add, Nat.add_zero, Nat.sub_self, List.replicate_zero, List.replicate_succ, List.cons_append, List.nil_append, List.append_nil, List.getElem?_cons_zero, List.getElem?_cons_succ, List.set_cons_zero, List.set_cons_succ, Option.some.injEq, exists_eq_left', exists_eq_left, exists_eq_right', V.int.injEq, V.ref.injEq, V.bl.injEq, V.str.injEq, List.cons.injEq, and_true, true_and, and_assoc, decide_eq_true_eq, Bool.not_eq_true', decide_eq_false_iff_not, ite_not, exists_and_left, ex_num hA, CPow, if_true, if_false, if_pos c1]
        refine ⟨by cases a <;> decide +kernel, by omega, eqQ k ?_⟩
        rw [enc_fin, if_pos (by omega)]
        cases a <;> simp only [b2, Bool.toNat, cond_true, cond_false, if_true, if_false, Bool.false_eq_true] <;> omega
      · simp (decide := true) only [tSeq, tIfS, tTest, tOp, tUn, rI, rI0, rU, rEq, rNe, scal, tVar, tC, tRet, tAsg, gName, tCall, tCons, tNil, tNF, tNew, tIf, tB, tAnd, tOr, tNot, tAndV, tOrV, tNotV, tCB, tLst, tNext, tDrop, L2.start, Int.reduceToNat, List.map_cons, List.map_nil, List.length_cons, List.length_nil, List.replicate, Nat.reduceAdd, Nat.reduceSub, Nat.zero_add, Nat.add_zero, Nat.sub_self, List.replicate_zero, List.replicate_succ, List.cons_append, List.nil_append, List.append_nil, List.getElem?_cons_zero, List.getElem?_cons_succ, List.set_cons_zero, List.set_cons_succ, Option.some.injEq, exists_eq_left', exists_eq_left, exists_eq_right', V.int.injEq, V.ref.injEq, V.bl.injEq, V.str.injEq, List.cons.injEq, and_true, true_and, and_assoc, decide_eq_true_eq, Bool.not_eq_true', decide_eq_false_iff_not, ite_not, exists_and_left, ex_num hA, CPow, if_true, if_false, if_neg c1]
        refine ⟨by cases a <;> decide +kernel, by omega, eqQ k ?_⟩
        rw [enc_fin, if_neg (by omega)]
        cases a <;> simp only [b2, Bool.toNat, cond_true, cond_false, if_true, if_false, Bool.false_eq_true] <;> omega
/-! ### ten_to -/
abbrev s_ten_to : Stmt := top 17
theorem sc_ten_to : FnScope ["n", "power", "step"] ["n"] (defScope s_ten_to) := ⟨rfl, rfl, rfl, by decide +kernel, rfl, by decide +kernel, by decide +kernel⟩
def sp_ten_to : Sp := fun vs H Q _ => ∃ n : Int, vs = [.int n] ∧ -(2 ^ 62) ≤ n ∧ n < 2 ^ 62 ∧ Q (.int (10 ^ n.toNat)) H
theorem ok_ten_to {f : Addr} {fd : FuncData} (b_range : mg "range" = none) (F : Fun K "ten_to" "ten_to" s_ten_to f fd) : FnOk P w K mg base CX0 1 f fd ["n"] sp_ten_to := by
  refine F.ok sc_ten_to (fun vs H Q E h => ?_) (fun cdv A outer s H vs Q E hr h => ?_)
  · obtain ⟨n, rfl, _⟩ := h
    rfl
  · obtain ⟨n, rfl, h0, h1, k⟩ := h
    refine ⟨_, (pss_cons (ps_set (i := 1) sc_ten_to.nd rfl (Or.inl rfl) pe_int) (pss_cons (ps_for PassesOwn.never rfl (pi_range1 rfl b_range (pa_cons (pv 0) pa_nil)) (pg_name (i := 2) sc_ten_to.nd rfl (Or.inl rfl)) (pss_one (ps_set (i := 1) sc_ten_to.nd rfl (Or.inl rfl) (pe_op op_mulW (pv 1) pe_int)))) (pss_one (ps_ret (pv 1))))), ?_⟩
    refine ⟨_, rfl, n, rfl, h0, h1, for_range (n := n.toNat) (fun i σ H' => ∃ v, σ = [some (.int n), some (.int (10 ^ i)), v] ∧ H' = H) ⟨none, rfl, rfl⟩ ?_ ?_⟩
    · rintro i σ H' hi ⟨v, rfl, rfl⟩
      simp only [tSeq, tIfS, tTest, tOp, tUn, rI, rI0, rU, rEq, rNe, scal, tVar, tC, tRet, tAsg, gName, tCall, tCons, tNil, tNF, tNew, tIf, tB, tAnd, tOr, tNot, tAndV, tOrV, tNotV, tCB, tLst, tNext, tDrop, L2.start, Int.reduceToNat, List.map_cons, List.map_nil, List.length_cons, List.length_nil, List.replicate, Nat.reduceAdd, Nat.reduceSub, Nat.zero_add, Nat.add_zero, Nat.sub_self, List.replicate_zero, List.replicate_succ, List.cons_append, List.nil_append, List.append_nil, List.getElem?_cons_zero, List.getElem?_cons_succ, List.set_cons_zero, List.set_cons_succ, Option.some.injEq, exists_eq_left', exists_eq_left, exists_eq_right', V.int.injEq, V.ref.injEq, V.bl.injEq, V.str.injEq, List.cons.injEq, and_true, true_and, and_assoc, decide_eq_true_eq, Bool.not_eq_true', decide_eq_false_iff_not, ite_not, exists_and_left]
      exact ⟨.inl (.inr ⟨by decide, by decide⟩), (Int.pow_succ _ _).symm⟩
    · rintro σ H' ⟨v, rfl, rfl⟩
      simp only [tSeq, tIfS, tTest, tOp, tUn, rI, rI0, rU, rEq, rNe, scal, tVar, tC, tRet, tAsg, gName, tCall, tCons, tNil, tNF, tNew, tIf, tB, tAnd, tOr, tNot, tAndV, tOrV, tNotV, tCB, tLst, tNext, tDrop, L2.start, Int.reduceToNat, List.map_cons, List.map_nil, List.length_cons, List.length_nil, List.replicate, Nat.reduceAdd, Nat.reduceSub, Nat.zero_add, Nat.add_zero, Nat.sub_self, List.replicate_zero, List.replicate_succ, List.cons_append, List.nil_append, List.append_nil, List.getElem?_cons_zero, List.getElem?_cons_succ, List.set_cons_zero, List.set_cons_succ, Option.some.injEq, exists_eq_left', exists_eq_left, exists_eq_right', V.int.injEq, V.ref.injEq, V.bl.injEq, V.str.injEq, List.cons.injEq, and_true, true_and, and_assoc, decide_eq_true_eq, Bool.not_eq_true', decide_eq_false_iff_not, ite_not, exists_and_left]
      exact k
/-! ### digit_count -/
abbrev s_digit_count : Stmt := top 18
theorem sc_digit_count : FnScope ["n"] ["n"] (defScope s_digit_count) := ⟨rfl, rfl, rfl, by decide +kernel, rfl, by decide +kernel, by decide +kernel⟩
def sp_digit_count : Sp := fun vs H Q _ => ∃ (n k : Nat), vs = [.int n] ∧ DigZ n k ∧ n < 10 ^ 4000 ∧ Q (.int k) H
theorem ok_digit_count {f : Addr} {fd : FuncData} (b_len : mg "len" = none) (b_str : mg "str" = none) (nd : NoDig K) (F : Fun K "digit_count" "digit_count" s_digit_count f fd) : FnOk P w K mg base CX0 1 f fd ["n"] sp_digit_count := by
  refine F.ok sc_digit_count (fun vs H Q E h => ?_) (fun cdv A outer s H vs Q E hr h => ?_)
  · obtain ⟨n, k, rfl, _⟩ := h
    rfl
  · obtain ⟨n, k, rfl, hd, hn, q⟩ := h
    refine ⟨_, (pss_one (ps_ret (pe_callB call_len_str rfl b_len L2.ob_len (pa_cons (pe_callTy (call_strW nd rfl) rfl b_str L2.ob_str (pa_cons (pv 0) pa_nil)) pa_nil)))), ?_⟩
    simp (decide := true) only [tSeq, tIfS, tTest, tOp, tUn, rI, rI0, rU, rEq, rNe, scal, tVar, tC, tRet, tAsg, gName, tCall, tCons, tNil, tNF, tNew, tIf, tB, tAnd, tOr, tNot, tAndV, tOrV, tNotV, tCB, tLst, tNext, tDrop, L2.start, Int.reduceToNat, List.map_cons, List.map_nil, List.length_cons, List.length_nil, List.replicate, Nat.reduceAdd, Nat.reduceSub, Nat.zero_add, Nat.add_zero, Nat.sub_self, List.replicate_zero, List.replicate_succ, List.cons_append, List.nil_append, List.append_nil, List.getElem?_cons_zero, List.getElem?_cons_succ, List.set_cons_zero, List.set_cons_succ, Option.some.injEq, exists_eq_left', exists_eq_left, exists_eq_right', V.int.injEq, V.ref.injEq, V.bl.injEq, V.str.injEq, List.cons.injEq, and_true, true_and, and_assoc, decide_eq_true_eq, Bool.not_eq_true', decide_eq_false_iff_not, ite_not, exists_and_left]
    have e := strz_len hd
    have l := digz_le hd hn
    refine ⟨Nat.lt_of_lt_of_le hn (Nat.pow_le_pow_right (by decide) (by decide)), ?_, ?_⟩
    · rw [e]
      exact Nat.le_trans l (by decide)
    · rw [e]
      exact q
/-! ### between -/
abbrev s_between : Stmt := top 19
theorem sc_between : FnScope ["low", "n", "high"] ["low", "n", "high"] (defScope s_between) := ⟨rfl, rfl, rfl, by decide +kernel, rfl, by decide +kernel, by decide +kernel⟩
def sp_between : Sp := fun vs H Q _ => ∃ l n h : Int, vs = [.int l, .int n, .int h] ∧ Q (.int (max l (min n h))) H
theorem ok_between {f : Addr} {fd : FuncData} (b_max : mg "max" = none) (b_min : mg "min" = none) (F : Fun K "between" "between" s_between f fd) : FnOk P w K mg base CX0 1 f fd ["low", "n", "high"] sp_between := by
  refine F.ok sc_between (fun vs H Q E h => ?_) (fun cdv A outer s H vs Q E hr h => ?_)
  · obtain ⟨l, n, h, rfl, _⟩ := h
    rfl
  · obtain ⟨l, n, h, rfl, k⟩ := h
    refine ⟨_, (pss_one (ps_ret (pe_callB (call_max2 rfl) rfl b_max L2.ob_max (pa_cons (pv 0) (pa_cons (pe_callB (call_min2 rfl) rfl b_min L2.ob_min (pa_cons (pv 1) (pa_cons (pv 2) pa_nil))) pa_nil))))), ?_⟩
    simp (decide := true) only [tSeq, tIfS, tTest, tOp, tUn, rI, rI0, rU, rEq, rNe, scal, tVar, tC, tRet, tAsg, gName, tCall, tCons, tNil, tNF, tNew, tIf, tB, tAnd, tOr, tNot, tAndV, tOrV, tNotV, tCB, tLst, tNext, tDrop, L2.start, Int.reduceToNat, List.map_cons, List.map_nil, List.length_cons, List.length_nil, List.replicate, Nat.reduceAdd, Nat.reduceSub, Nat.zero_add, Nat.add_zero, Nat.sub_self, List.replicate_zero, List.replicate_succ, List.cons_append, List.nil_append, List.append_nil, List.getElem?_cons_zero, List.getElem?_cons_succ, List.set_cons_zero, List.set_cons_succ, Option.some.injEq, exists_eq_left', exists_eq_left, exists_eq_right', V.int.injEq, V.ref.injEq, V.bl.injEq, V.str.injEq, List.cons.injEq, and_true, true_and, and_assoc, decide_eq_true_eq, Bool.not_eq_true', decide_eq_false_iff_not, ite_not, exists_and_left]
    refine eqQ k ?_
    split <;> split <;> omega
/-! ### nearest_whole -/
abbrev s_nearest_whole : Stmt := top 23
theorem sc_nearest_whole : FnScope ["numerator", "denominator", "kept", "twice_the_rest"] ["numerator", "denominator"] (defScope s_nearest_whole) := ⟨rfl, rfl, rfl, by decide +kernel, rfl, by decide +kernel, by decide +kernel⟩
def sp_nearest_whole : Sp := fun vs H Q _ => ∃ n d : Nat, vs = [.int n, .int d] ∧ 0 < d ∧ n < 10 ^ 2000 ∧ Q (.int (halfEven n d : Nat)) H
theorem ok_nearest_whole {f : Addr} {fd : FuncData}  (F : Fun K "nearest_whole" "nearest_whole" s_nearest_whole f fd) : FnOk P w K mg base CX0 1 f fd ["numerator", "denominator"] sp_nearest_whole := by
  refine F.ok sc_nearest_whole (fun vs H Q E h => ?_) (fun cdv A outer s H vs Q E hr h => ?_)
  · obtain ⟨n, d, rfl, _⟩ := h
    rfl
  · obtain ⟨n, d, rfl, hd, hn, k⟩ := h
    refine ⟨_, (pss_cons (ps_set (i := 2) sc_nearest_whole.nd rfl (Or.inl rfl) (pe_op op_fdivW (pv 0) (pv 1))) (pss_cons (ps_set (i := 3) sc_nearest_whole.nd rfl (Or.inl rfl) (pe_op op_mulW (pe_op op_mod (pv 0) (pv 1)) pe_int)) (pss_cons (ps_if (PW.pt (pw_or (pt_cmpR op_gt (pv 3) (pv 1) (nomark _)) (pw_or1 (PW.pt (pw_and (pt_cmpR op_eq (pv 3) (pv 1) (nomark _)) (pw_and1 (pt_cmpR op_eq (pe_op op_mod (pv 2) pe_int) pe_int (nomark _)))))))) (pss_one (ps_ret (pe_op op_add (pv 2) pe_int))) pss_nil) (pss_one (ps_ret (pv 2)))))), ?_⟩
    simp (decide := true) only [tSeq, tIfS, tTest, tOp, tUn, rI, rI0, rU, rEq, rNe, scal, tVar, tC, tRet, tAsg, gName, tCall, tCons, tNil, tNF, tNew, tIf, tB, tAnd, tOr, tNot, tAndV, tOrV, tNotV, tCB, tLst, tNext, tDrop, L2.start, Int.reduceToNat, List.map_cons, List.map_nil, List.length_cons, List.length_nil, List.replicate, Nat.reduceAdd, Nat.reduceSub, Nat.zero_add, Nat.add_zero, Nat.sub_self, List.replicate_zero, List.replicate_succ, List.cons_append, List.nil_append, List.append_nil, List.getElem?_cons_zero, List.getElem?_cons_succ, List.set_cons_zero, List.set_cons_succ, Option.some.injEq, exists_eq_left', exists_eq_left, exists_eq_right', V.int.injEq, V.ref.injEq, V.bl.injEq, V.str.injEq, List.cons.injEq, and_true, true_and, and_assoc, decide_eq_true_eq, Bool.not_eq_true', decide_eq_false_iff_not, ite_not, exists_and_left]
    have hd' : (0 : Int) < d := by omega
    refine ⟨⟨hd', .inl (wid_nat hn)⟩, hd', .inl (.inr ⟨by decide, by decide⟩), ?_⟩
    rw [← half_intD] at k
    refine ite2 (fun c1 => ?_) (fun c1 => ite2 (fun c2 => ite2 (fun c3 => ?_) (fun c3 => ?_)) (fun c2 => ?_))
    · rw [if_pos (.inl c1)] at k; exact k
    · rw [if_pos (.inr ⟨c2, c3⟩)] at k; exact k
    · rw [if_neg (fun z => z.elim c1 fun z => c3 z.2)] at k; exact k
    · rw [if_neg (fun z => z.elim c1 fun z => c2 z.1)] at k; exact k
/-! ### without_digits -/
abbrev s_without_digits : Stmt := top 22
theorem sc_without_digits : FnScope ["coefficient", "drop"] ["coefficient", "drop"] (defScope s_without_digits) := ⟨rfl, rfl, rfl, by decide +kernel, rfl, by decide +kernel, by decide +kernel⟩
def sp_without_digits : Sp := fun vs H Q _ => ∃ (c : Nat) (d : Int), vs = [.int c, .int d] ∧ c < 10 ^ 2000 ∧ -(2 ^ 62) ≤ d ∧ d < 2 ^ 62 ∧ Q (.int (halfEven c (10 ^ d.toNat) : Nat)) H
theorem ok_without_digits {f : Addr} {fd : FuncData} (d_nearest_whole : Def P w K mg base "nearest_whole" 1 ["numerator", "denominator"] sp_nearest_whole) (d_digit_count : Def P w K mg base "digit_count" 1 ["n"] sp_digit_count) (d_ten_to : Def P w K mg base "ten_to" 1 ["n"] sp_ten_to) (F : Fun K "without_digits" "without_digits" s_without_digits f fd) : FnOk P w K mg base CX0 2 f fd ["coefficient", "drop"] sp_without_digits := by
  refine F.ok sc_without_digits (fun vs H Q E h => ?_) (fun cdv A outer s H vs Q E hr h => ?_)
  · obtain ⟨c, d, rfl, _⟩ := h
    rfl
  · obtain ⟨c, d, rfl, hc, h0, h1, k⟩ := h
    obtain ⟨j, hj⟩ := digz_some c
    have hj2 := digz_le hj hc
    refine ⟨_, (pss_cons (ps_if (pt_cmpR op_gt (pv 1) (pe_def d_digit_count (hr.mono (by decide)) (pa_cons (pv 0) pa_nil)) (nomark _)) (pss_one (ps_ret pe_int)) pss_nil) (pss_one (ps_ret (pe_def d_nearest_whole (hr.mono (by decide)) (pa_cons (pv 0) (pa_cons (pe_def d_ten_to (hr.mono (by decide)) (pa_cons (pv 1) pa_nil)) pa_nil)))))), ?_⟩
    simp (decide := true) only [tSeq, tIfS, tTest, tOp, tUn, rI, rI0, rU, rEq, rNe, scal, tVar, tC, tRet, tAsg, gName, tCall, tCons, tNil, tNF, tNew, tIf, tB, tAnd, tOr, tNot, tAndV, tOrV, tNotV, tCB, tLst, tNext, tDrop, L2.start, Int.reduceToNat, List.map_cons, List.map_nil, List.length_cons, List.length_nil, List.replicate, Nat.reduceAdd, Nat.reduceSub, Nat.zero_add, Nat.add_zero, Nat.sub_self, List.replicate_zero, List.replicate_succ, List.cons_append, List.nil_append, List.append_nil, List.getElem?_cons_zero, List.getElem?_cons_succ, List.set_cons_zero, List.set_cons_succ, Option.some.injEq, exists_eq_left', exists_eq_left, exists_eq_right', V.int.injEq, V.ref.injEq, V.bl.injEq, V.str.injEq, List.cons.injEq, and_true, true_and, and_assoc, decide_eq_true_eq, Bool.not_eq_true', decide_eq_false_iff_not, ite_not, exists_and_left, sp_digit_count, sp_ten_to, sp_nearest_whole]
    refine ⟨c, rfl, j, hj, Nat.lt_of_lt_of_le hc (Nat.pow_le_pow_right (by decide) (by decide)), ite2 (fun c1 => ?_) (fun c1 => ?_)⟩
    · rw [half_zero hj.lt (by omega)] at k
      exact k
    · exact ⟨h0, h1, c, rfl, 10 ^ d.toNat, by simp, ten_pos _, hc, k⟩
/-! ### nearest -/
abbrev s_nearest : Stmt := top 21
theorem sc_nearest : FnScope ["minus", "coefficient", "exponent", "drop", "kept"] ["minus", "coefficient", "exponent"] (defScope s_nearest) := ⟨rfl, rfl, rfl, by decide +kernel, rfl, by decide +kernel, by decide +kernel⟩
def sp_nearest (C : Addr) : Sp := fun vs H Q _ => ∃ (a : Bool) (c : Nat) (e : Int) (k : Nat), vs = [.int (b2 a), .int c, .int e] ∧ Dig c k ∧ c < 10 ^ 1900 ∧ -(2 ^ 60) < e ∧ e < 2 ^ 60 ∧ ∀ (H' : Hp) (p : Addr), NumZ C H' p (nearM a c e k) → Same H H' → Q (.ref p) H'
theorem ok_nearest {f : Addr} {fd : FuncData} {C : Addr} (g_HIGHEST_EXPONENT : GI mg "HIGHEST_EXPONENT" (369)) (g_DIGITS : GI mg "DIGITS" (16)) (g_LOWEST_EXPONENT : GI mg "LOWEST_EXPONENT" (-398)) (b_max : mg "max" = none) (d_without_digits : Def P w K mg base "without_digits" 2 ["coefficient", "drop"] sp_without_digits) (d_finite : Def P w K mg base "finite" 3 ["minus", "coefficient", "exponent"] (sp_finite C)) (d_infinity : Def P w K mg base "infinity" 3 ["minus"] (sp_infinity C)) (d_digit_count : Def P w K mg base "digit_count" 1 ["n"] sp_digit_count) (F : Fun K "nearest" "nearest" s_nearest f fd) : FnOk P w K mg base CX0 4 f fd ["minus", "coefficient", "exponent"] (sp_nearest C) := by
  refine F.ok sc_nearest (fun vs H Q E h => ?_) (fun cdv A outer s H vs Q E hr h => ?_)
  · obtain ⟨a, c, e, k, rfl, _⟩ := h
    rfl
  · obtain ⟨a, c, e, k, rfl, hd, hc, e0, e1, q⟩ := h
    have l := dig_le hd hc
    refine ⟨_, (pss_cons (ps_set (i := 3) sc_nearest.nd rfl (Or.inl rfl) (pe_callB (call_max3 rfl) rfl b_max L2.ob_max (pa_cons pe_int (pa_cons (pe_op op_sub (pe_def d_digit_count (hr.mono (by decide)) (pa_cons (pv 1) pa_nil)) (pe_gi g_DIGITS)) (pa_cons (pe_op op_sub (pe_gi g_LOWEST_EXPONENT) (pv 2)) pa_nil))))) (pss_cons (ps_set (i := 4) sc_nearest.nd rfl (Or.inl rfl) (pe_def d_without_digits (hr.mono (by decide)) (pa_cons (pv 1) (pa_cons (pv 3) pa_nil)))) (pss_cons (ps_set (i := 2) sc_nearest.nd rfl (Or.inl rfl) (pe_op op_add (pv 2) (pv 3))) (pss_cons (ps_if (pt_cmpR op_eq (pv 4) (pe_op op_pow pe_int pe_int) (nomark _)) (pss_cons (ps_set (i := 4) sc_nearest.nd rfl (Or.inl rfl) (pe_op op_pow pe_int pe_int)) (pss_one (ps_set (i := 2) sc_nearest.nd rfl (Or.inl rfl) (pe_op op_add (pv 2) pe_int)))) pss_nil) (pss_cons (ps_if (pt_cmpR op_gt (pv 2) (pe_gi g_HIGHEST_EXPONENT) (nomark _)) (pss_one (ps_ret (pe_def d_infinity (hr.mono (by decide)) (pa_cons (pv 0) pa_nil)))) pss_nil) (pss_one (ps_ret (pe_def d_finite (hr.mono (by decide)) (pa_cons (pv 0) (pa_cons (pv 4) (pa_cons (pv 2) pa_nil))))))))))), ?_⟩
    simp (decide := true) only [tSeq, tIfS, tTest, tOp, tUn, rI, rI0, rU, rEq, rNe, scal, tVar, tC, tRet, tAsg, gName, tCall, tCons, tNil, tNF, tNew, tIf, tB, tAnd, tOr, tNot, tAndV, tOrV, tNotV, tCB, tLst, tNext, tDrop, L2.start, Int.reduceToNat, List.map_cons, List.map_nil, List.length_cons, List.length_nil, List.replicate, Nat.reduceAdd, Nat.reduceSub, Nat.zero_add, Nat.add_zero, Nat.sub_self, List.replicate_zero, List.replicate_succ, List.cons_append, List.nil_append, List.append_nil, List.getElem?_cons_zero, List.getElem?_cons_succ, List.set_cons_zero, List.set_cons_succ, Option.some.injEq, exists_eq_left', exists_eq_left, exists_eq_right', V.int.injEq, V.ref.injEq, V.bl.injEq, V.str.injEq, List.cons.injEq, and_true, true_and, and_assoc, decide_eq_true_eq, Bool.not_eq_true', decide_eq_false_iff_not, ite_not, exists_and_left, CPow, sp_digit_count, sp_without_digits, sp_infinity, sp_finite]
    refine ⟨c, rfl, k, .inl hd, Nat.lt_of_lt_of_le hc (Nat.pow_le_pow_right (by decide) (by decide)), c, rfl, Nat.lt_of_lt_of_le hc (Nat.pow_le_pow_right (by decide) (by decide)), by omega, by omega, ?_⟩
    unfold nearM at q
    generalize max (0 : Int) (max ((k : Int) - 16) (-398 - e)) = d at q ⊢
    dsimp only at q
    generalize halfEven c (10 ^ d.toNat) = y at q ⊢
    by_cases c1 : y = 10 ^ 16
    · rw [if_pos c1, if_pos c1] at q
      rw [if_pos (by rw [c1]; rfl)]
      by_cases c2 : 369 < e + d + 1
      · rw [if_pos c2] at q
        rw [if_pos c2]
        exact fun H' p hA hs => q H' p hA.inf hs
      · rw [if_neg c2] at q
        rw [if_neg c2]
        exact fun H' p hA hs => q H' p (hA.eq rfl).fin hs
    · rw [if_neg c1, if_neg c1] at q
      rw [if_neg (by intro z; exact c1 (by omega))]
      by_cases c2 : 369 < e + d
      · rw [if_pos c2] at q
        rw [if_pos c2]
        exact fun H' p hA hs => q H' p hA.inf hs
      · rw [if_neg c2] at q
        rw [if_neg c2]
        exact fun H' p hA hs => q H' p hA.fin hs
/-! ### rounded -/
abbrev s_rounded : Stmt := top 20
theorem sc_rounded : FnScope ["minus", "coefficient", "exponent", "wanted", "lowest", "highest", "chosen"] ["minus", "coefficient", "exponent", "wanted"] (defScope s_rounded) := ⟨rfl, rfl, rfl, by decide +kernel, rfl, by decide +kernel, by decide +kernel⟩
def sp_rounded (C : Addr) : Sp := fun vs H Q _ => ∃ (a : Bool) (c : Nat) (e w : Int), vs = [.int (b2 a), .int c, .int e, .int w] ∧ c < 10 ^ 1900 ∧ -(2 ^ 59) < e ∧ e < 2 ^ 59 ∧ ∀ (H' : Hp) (p : Addr), NumZ C H' p (fit a (ratio c e).1 (ratio c e).2 w) → Same H H' → Q (.ref p) H'
def muR : L2.St → Hp → Nat := fun σ _ => match σ with
  | [_, some (.int x), _, _, _, _, _] => x.toNat
  | _ => 0
theorem ok_rounded {f : Addr} {fd : FuncData} {C : Addr} (g_LOWEST_EXPONENT : GI mg "LOWEST_EXPONENT" (-398)) (g_HIGHEST_EXPONENT : GI mg "HIGHEST_EXPONENT" (369)) (g_DIGITS : GI mg "DIGITS" (16)) (b_max : mg "max" = none) (b_min : mg "min" = none) (d_between : Def P w K mg base "between" 1 ["low", "n", "high"] sp_between) (d_finite : Def P w K mg base "finite" 3 ["minus", "coefficient", "exponent"] (sp_finite C)) (d_nearest : Def P w K mg base "nearest" 4 ["minus", "coefficient", "exponent"] (sp_nearest C)) (d_ten_to : Def P w K mg base "ten_to" 1 ["n"] sp_ten_to) (d_digit_count : Def P w K mg base "digit_count" 1 ["n"] sp_digit_count) (F : Fun K "rounded" "rounded" s_rounded f fd) : FnOk P w K mg base CX0 5 f fd ["minus", "coefficient", "exponent", "wanted"] (sp_rounded C) := by
  refine F.ok sc_rounded (fun vs H Q E h => ?_) (fun cdv A outer s H vs Q E hr h => ?_)
  · obtain ⟨a, c, e, w, rfl, _⟩ := h
    rfl
  · obtain ⟨a, c, e, w, rfl, hc, e0, e1, q⟩ := h
    refine ⟨_, (pss_cons (ps_if (pt_cmpR op_eq (pv 1) pe_int (nomark _)) (pss_one (ps_ret (pe_def d_finite (hr.mono (by decide)) (pa_cons (pv 0) (pa_cons pe_int (pa_cons (pe_def d_between (hr.mono (by decide)) (pa_cons (pe_gi g_LOWEST_EXPONENT) (pa_cons (pv 3) (pa_cons (pe_gi g_HIGHEST_EXPONENT) pa_nil)))) pa_nil)))))) pss_nil) (pss_cons (ps_while PassesOwn.never (pt_cmpR op_eq (pe_op op_mod (pv 1) pe_int) pe_int (nomark _)) (pss_cons (ps_set (i := 1) sc_rounded.nd rfl (Or.inl rfl) (pe_op op_fdivW (pv 1) pe_int)) (pss_one (ps_set (i := 2) sc_rounded.nd rfl (Or.inl rfl) (pe_op op_add (pv 2) pe_int))))) (pss_cons (ps_set (i := 4) sc_rounded.nd rfl (Or.inl rfl) (pe_callB (call_max2 rfl) rfl b_max L2.ob_max (pa_cons (pe_gi g_LOWEST_EXPONENT) (pa_cons (pe_op op_sub (pv 2) (pe_op op_sub (pe_gi g_DIGITS) (pe_def d_digit_count (hr.mono (by decide)) (pa_cons (pv 1) pa_nil)))) pa_nil)))) (pss_cons (ps_set (i := 5) sc_rounded.nd rfl (Or.inl rfl) (pe_callB (call_min2 rfl) rfl b_min L2.ob_min (pa_cons (pe_gi g_HIGHEST_EXPONENT) (pa_cons (pv 2) pa_nil)))) (pss_cons (ps_if (pt_cmpR op_gt (pv 4) (pv 5) (nomark _)) (pss_one (ps_ret (pe_def d_nearest (hr.mono (by decide)) (pa_cons (pv 0) (pa_cons (pv 1) (pa_cons (pv 2) pa_nil)))))) pss_nil) (pss_cons (ps_set (i := 6) sc_rounded.nd rfl (Or.inl rfl) (pe_def d_between (hr.mono (by decide)) (pa_cons (pv 4) (pa_cons (pv 3) (pa_cons (pv 5) pa_nil))))) (pss_one (ps_ret (pe_def d_finite (hr.mono (by decide)) (pa_cons (pv 0) (pa_cons (pe_op op_mulW (pv 1) (pe_def d_ten_to (hr.mono (by decide)) (pa_cons (pe_op op_sub (pv 2) (pv 6)) pa_nil))) (pa_cons (pv 6) pa_nil)))))))))))), ?_⟩
    by_cases c0 : c = 0
    · subst c0
      simp (decide := true) only [tSeq, tIfS, tTest, tOp, tUn, rI, rI0, rU, rEq, rNe, scal, tVar, tC, tRet, tAsg, gName, tCall, tCons, tNil, tNF, tNew, tIf, tB, tAnd, tOr, tNot, tAndV, tOrV, tNotV, tCB, tLst, tNext, tDrop, L2.start, Int.reduceToNat, List.map_cons, List.map_nil, List.length_cons, List.length_nil, List.replicate, Nat.reduceAdd, Nat.reduceSub, Nat.zero_add, Nat.add_zero, Nat.sub_self, List.replicate_zero, List.replicate_succ, List.cons_append, List.nil_append, List.append_nil, List.getElem?_cons_zero, List.getElem?_cons_succ, List.set_cons_zero, List.set_cons_succ, Option.some.injEq, exists_eq_left', exists_eq_left, exists_eq_right', V.int.injEq, V.ref.injEq, V.bl.injEq, V.str.injEq, List.cons.injEq, and_true, true_and, and_assoc, decide_eq_true_eq, Bool.not_eq_true', decide_eq_false_iff_not, ite_not, exists_and_left, if_true, sp_between, sp_finite]
      intro H' p hA hs
      refine q H' p ?_ hs
      rw [show (ratio 0 e).1 = 0 by rw [ratio_eq]; exact Nat.zero_mul _, fit_zero]
      exact hA.fin
    · simp (decide := true) only [tSeq, tIfS, tTest, tOp, tUn, rI, rI0, rU, rEq, rNe, scal, tVar, tC, tRet, tAsg, gName, tCall, tCons, tNil, tNF, tNew, tIf, tB, tAnd, tOr, tNot, tAndV, tOrV, tNotV, tCB, tLst, tNext, tDrop, L2.start, Int.reduceToNat, List.map_cons, List.map_nil, List.length_cons, List.length_nil, List.replicate, Nat.reduceAdd, Nat.reduceSub, Nat.zero_add, Nat.add_zero, Nat.sub_self, List.replicate_zero, List.replicate_succ, List.cons_append, List.nil_append, List.append_nil, List.getElem?_cons_zero, List.getElem?_cons_succ, List.set_cons_zero, List.set_cons_succ, Option.some.injEq, exists_eq_left', exists_eq_left, exists_eq_right', V.int.injEq, V.ref.injEq, V.bl.injEq, V.str.injEq, List.cons.injEq, and_true, true_and, and_assoc, decide_eq_true_eq, Bool.not_eq_true', decide_eq_false_iff_not, ite_not, exists_and_left]
      rw [if_neg (by omega)]
      refine while_by (fun σ H' => ∃ (c' j : Nat), σ = [some (.int (b2 a)), some (.int c'), some (.int (e + j)), some (.int w), none, none, none] ∧ H' = H ∧ c = c' * 10 ^ j ∧ 0 < c') muR ⟨c, 0, by simp, rfl, by simp, by omega⟩ ?_ ?_
      · rintro σ H' ⟨c', j, rfl, rfl, hj, hc'⟩
        have hj2 : j < 1900 := by
          have h1 : 10 ^ j ≤ c := by rw [hj]; exact Nat.le_mul_of_pos_left _ hc'
          exact (Nat.pow_lt_pow_iff_right (a := 10) (by decide)).mp (Nat.lt_of_le_of_lt h1 hc)
        by_cases c1 : (c' : Int) % 10 = 0
        · simp (decide := true) only [tSeq, tIfS, tTest, tOp, tUn, rI, rI0, rU, rEq, rNe, scal, tVar, tC, tRet, tAsg, gName, tCall, tCons, tNil, tNF, tNew, tIf, tB, tAnd, tOr, tNot, tAndV, tOrV, tNotV, tCB, tLst, tNext, tDrop, L2.start, Int.reduceToNat, List.map_cons, List.map_nil, List.length_cons, List.length_nil, List.replicate, Nat.reduceAdd, Nat.reduceSub, Nat.zero_add, Nat.add_zero, Nat.sub_self, List.replicate_zero, List.replicate_succ, List.cons_append, List.nil_append, List.append_nil, List.getElem?_cons_zero, List.getElem?_cons_succ, List.set_cons_zero, List.set_cons_succ, Option.some.injEq, exists_eq_left', exists_eq_left, exists_eq_right', V.int.injEq, V.ref.injEq, V.bl.injEq, V.str.injEq, List.cons.injEq, and_true, true_and, and_assoc, decide_eq_true_eq, Bool.not_eq_true', decide_eq_false_iff_not, ite_not, exists_and_left, if_pos c1, muR]
          refine ⟨⟨by decide, .inr (by show (10 : Nat) < 10 ^ 2000; exact Nat.lt_of_lt_of_le (show 10 < 10 ^ 2 by decide) (Nat.pow_le_pow_right (by decide) (by decide)))⟩, ⟨c' / 10, by omega, j + 1, by omega, ?_, by omega⟩, by omega⟩
          rw [hj, Nat.pow_succ, Nat.mul_comm (10 ^ j) 10, ← Nat.mul_assoc, Nat.div_mul_cancel (Nat.dvd_of_mod_eq_zero (by omega))]
        · obtain ⟨k, hk⟩ := dig_some hc'
          have hcc : c' < 10 ^ 1900 := Nat.lt_of_le_of_lt (by rw [hj]; exact Nat.le_mul_of_pos_right _ (ten_pos j)) hc
          have l := dig_le hk hcc
          have hq := round_of (neg := a) (e := e) (ideal := w) (by omega) hj (by omega) hk
          simp (decide := true) only [tSeq, tIfS, tTest, tOp, tUn, rI, rI0, rU, rEq, rNe, scal, tVar, tC, tRet, tAsg, gName, tCall, tCons, tNil, tNF, tNew, tIf, tB, tAnd, tOr, tNot, tAndV, tOrV, tNotV, tCB, tLst, tNext, tDrop, L2.start, Int.reduceToNat, List.map_cons, List.map_nil, List.length_cons, List.length_nil, List.replicate, Nat.reduceAdd, Nat.reduceSub, Nat.zero_add, Nat.add_zero, Nat.sub_self, List.replicate_zero, List.replicate_succ, List.cons_append, List.nil_append, List.append_nil, List.getElem?_cons_zero, List.getElem?_cons_succ, List.set_cons_zero, List.set_cons_succ, Option.some.injEq, exists_eq_left', exists_eq_left, exists_eq_right', V.int.injEq, V.ref.injEq, V.bl.injEq, V.str.injEq, List.cons.injEq, and_true, true_and, and_assoc, decide_eq_true_eq, Bool.not_eq_true', decide_eq_false_iff_not, ite_not, exists_and_left, if_neg c1, sp_digit_count, sp_nearest, sp_between, sp_ten_to, sp_finite]
          refine ⟨c', rfl, k, .inl hk, Nat.lt_of_lt_of_le hcc (Nat.pow_le_pow_right (by decide) (by decide)), ?_⟩
          have el : (if e + (j : Int) - (16 - (k : Int)) > -398 then e + (j : Int) - (16 - (k : Int)) else -398) = max (-398) (e + (j : Int) - (16 - (k : Int))) := by split <;> omega
          have eh : (if e + (j : Int) < 369 then e + (j : Int) else 369) = min 369 (e + (j : Int)) := by split <;> omega
          rw [el, eh]
          unfold roundM clampIn at hq
          dsimp only at hq
          by_cases c2 : min 369 (e + (j : Int)) < max (-398) (e + (j : Int) - (16 - (k : Int)))
          · rw [if_pos c2] at hq ⊢
            exact ⟨a, rfl, c', rfl, k, hk, hcc, by omega, by omega, fun H1 p hz hs => q H1 p (hq ▸ hz) hs⟩
          · rw [if_neg c2] at hq ⊢
            have hk1 : 1 ≤ k := hk.1
            refine ⟨by omega, by omega, .inr ⟨wid_nat (Nat.lt_of_lt_of_le hcc (Nat.pow_le_pow_right (by decide) (by decide))), wid_ten (by omega)⟩, fun H1 p hz hs => q H1 p (hq ▸ (hz.eq ?_).fin) hs⟩
            rw [Int.natCast_mul, Int.natCast_pow]
            rfl
      · intro σ H Q Q' hm
        simp (decide := true) only [tSeq, tIfS, tTest, tOp, tUn, rI, rI0, rU, rEq, rNe, scal, tVar, tC, tRet, tAsg, gName, tCall, tCons, tNil, tNF, tNew, tIf, tB, tAnd, tOr, tNot, tAndV, tOrV, tNotV, tCB, tLst, tNext, tDrop, L2.start, Int.reduceToNat, List.map_cons, List.map_nil, List.length_cons, List.length_nil, List.replicate, Nat.reduceAdd, Nat.reduceSub, Nat.zero_add, Nat.add_zero, Nat.sub_self, List.replicate_zero, List.replicate_succ, List.cons_append, List.nil_append, List.append_nil, List.getElem?_cons_zero, List.getElem?_cons_succ, List.set_cons_zero, List.set_cons_succ, Option.some.injEq, exists_eq_left', exists_eq_left, exists_eq_right', V.int.injEq, V.ref.injEq, V.bl.injEq, V.str.injEq, List.cons.injEq, and_true, true_and, and_assoc, decide_eq_true_eq, Bool.not_eq_true', decide_eq_false_iff_not, ite_not, exists_and_left]
        rintro ⟨v, h1, i, h2, h3⟩
        exact ⟨v, h1, i, h2, hm _ _ h3⟩
/-! ### with_sign_turned -/
abbrev s_with_sign_turned : Stmt := top 25
theorem sc_with_sign_turned : FnScope ["a"] ["a"] (defScope s_with_sign_turned) := ⟨rfl, rfl, rfl, by decide +kernel, rfl, by decide +kernel, by decide +kernel⟩
def sp_with_sign_turned (C : Addr) : Sp := fun vs H Q _ => ∃ p : Addr, vs = [.ref p] ∧ ∃ z : Num, NumZ C H p z ∧ ∀ (H' : Hp) (q : Addr), NumZ C H' q (turn z) → Same H H' → Q (.ref q) H'
theorem ok_with_sign_turned {f : Addr} {fd : FuncData} {C : Addr} (T : NumC K C) (D : NumDef P w K mg base C) (F : Fun K "with_sign_turned" "with_sign_turned" s_with_sign_turned f fd) : FnOk P w K mg base CX0 3 f fd ["a"] (sp_with_sign_turned C) := by
  refine F.ok sc_with_sign_turned (fun vs H Q E h => ?_) (fun cdv A outer s H vs Q E hr h => ?_)
  · obtain ⟨p, rfl, _⟩ := h
    rfl
  · obtain ⟨p, rfl, z, hz, k⟩ := h
    refine ⟨_, (pss_one (ps_ret (pe_new D (hr.mono (by decide)) (pa_cons (pe_k T (pv 0)) (pa_cons (pe_op op_sub pe_int (pe_m T (pv 0))) (pa_cons (pe_c T (pv 0)) (pa_cons (pe_e T (pv 0)) pa_nil))))))), ?_⟩
    cases z with
    | nan =>
      obtain ⟨m, c, e, hA⟩ := hz.nan
      simp (decide := true) only [tSeq, tIfS, tTest, tOp, tUn, rI, rI0, rU, rEq, rNe, scal, tVar, tC, tRet, tAsg, gName, tCall, tCons, tNil, tNF, tNew, tIf, tB, tAnd, tOr, tNot, tAndV, tOrV, tNotV, tCB, tLst, tNext, tDrop, L2.start, Int.reduceToNat, List.map_cons, List.map_nil, List.length_cons, List.length_nil, List.replicate, Nat.reduceAdd, Nat.reduceSub, Nat.zero_add, Nat.add_zero, Nat.sub_self, List.replicate_zero, List.replicate_succ, List.cons_append, List.nil_append, List.append_nil, List.getElem?_cons_zero, List.getElem?_cons_succ, List.set_cons_zero, List.set_cons_succ, Option.some.injEq, exists_eq_left', exists_eq_left, exists_eq_right', V.int.injEq, V.ref.injEq, V.bl.injEq, V.str.injEq, List.cons.injEq, and_true, true_and, and_assoc, decide_eq_true_eq, Bool.not_eq_true', decide_eq_false_iff_not, ite_not, exists_and_left, ex_num hA]
      exact fun H' q h4 hs => k H' q h4.nan hs
    | inf a =>
      have hA := hz.inf
      simp (decide := true) only [tSeq, tIfS, tTest, tOp, tUn, rI, rI0, rU, rEq, rNe, scal, tVar, tC, tRet, tAsg, gName, tCall, tCons, tNil, tNF, tNew, tIf, tB, tAnd, tOr, tNot, tAndV, tOrV, tNotV, tCB, tLst, tNext, tDrop, L2.start, Int.reduceToNat, List.map_cons, List.map_nil, List.length_cons, List.length_nil, List.replicate, Nat.reduceAdd, Nat.reduceSub, Nat.zero_add, Nat.add_zero, Nat.sub_self, List.replicate_zero, List.replicate_succ, List.cons_append, List.nil_append, List.append_nil, List.getElem?_cons_zero, List.getElem?_cons_succ, List.set_cons_zero, List.set_cons_succ, Option.some.injEq, exists_eq_left', exists_eq_left, exists_eq_right', V.int.injEq, V.ref.injEq, V.bl.injEq, V.str.injEq, List.cons.injEq, and_true, true_and, and_assoc, decide_eq_true_eq, Bool.not_eq_true', decide_eq_false_iff_not, ite_not, exists_and_left, ex_num hA]
      exact fun H' q h4 hs => k H' q (h4.eq (by cases a <;> rfl)).inf hs
    | fin a c e =>
      have hA := hz.fin
      simp (decide := true) only [tSeq, tIfS, tTest, tOp, tUn, rI, rI0, rU, rEq, rNe, scal, tVar, tC, tRet, tAsg, gName, tCall, tCons, tNil, tNF, tNew, tIf, tB, tAnd, tOr, tNot, tAndV, tOrV, tNotV, tCB, tLst, tNext, tDrop, L2.start, Int.reduceToNat, List.map_cons, List.map_nil, List.length_cons, List.length_nil, List.replicate, Nat.reduceAdd, Nat.reduceSub, Nat.zero_add, Nat.add_zero, Nat.sub_self, List.replicate_zero, List.replicate_succ, List.cons_append, List.nil_append, List.append_nil, List.getElem?_cons_zero, List.getElem?_cons_succ, List.set_cons_zero, List.set_cons_succ, Option.some.injEq, exists_eq_left', exists_eq_left, exists_eq_right', V.int.injEq, V.ref.injEq, V.bl.injEq, V.str.injEq, List.cons.injEq, and_true, true_and, and_assoc, decide_eq_true_eq, Bool.not_eq_true', decide_eq_false_iff_not, ite_not, exists_and_left, ex_num hA]
      exact fun H' q h4 hs => k H' q (h4.eq (by cases a <;> rfl)).fin hs
/-! ### added_with_infinity -/
abbrev s_added_with_infinity : Stmt := top 27
theorem sc_added_with_infinity : FnScope ["a", "b"] ["a", "b"] (defScope s_added_with_infinity) := ⟨rfl, rfl, rfl, by decide +kernel, rfl, by decide +kernel, by decide +kernel⟩
def sp_added_with_infinity (C : Addr) : Sp := fun vs H Q _ => ∃ p q : Addr, vs = [.ref p, .ref q] ∧ ∃ x : Num, NumZ C H p x ∧ ∃ y : Num, NumZ C H q y ∧ x ≠ .nan ∧ y ≠ .nan ∧ (sideZ' x ∨ sideZ' y) ∧ ∀ (H' : Hp) (r : Addr), NumZ C H' r (add x y) → Same H H' → Q (.ref r) H'
theorem ok_added_with_infinity {f : Addr} {fd : FuncData} {C : Addr} (T : NumC K C) (g_FINITE : GI mg "FINITE" (0)) (g_INFINITE : GI mg "INFINITE" (1)) (d_infinity : Def P w K mg base "infinity" 3 ["minus"] (sp_infinity C)) (d_nan : Def P w K mg base "nan" 3 [] (sp_nan C)) (F : Fun K "added_with_infinity" "added_with_infinity" s_added_with_infinity f fd) : FnOk P w K mg base CX0 4 f fd ["a", "b"] (sp_added_with_infinity C) := by
  refine F.ok sc_added_with_infinity (fun vs H Q E h => ?_) (fun cdv A outer s H vs Q E hr h => ?_)
  · obtain ⟨p, q, rfl, _⟩ := h
    rfl
  · obtain ⟨p, q, rfl, x, hx, y, hy, nx, ny, hi, k⟩ := h
    refine ⟨_, (pss_cons (ps_if (pt_cmpR op_eq (pe_k T (pv 0)) (pe_gi g_FINITE) (nomark _)) (pss_one (ps_ret (pe_def d_infinity (hr.mono (by decide)) (pa_cons (pe_m T (pv 1)) pa_nil)))) pss_nil) (pss_cons (ps_if (PW.pt (pw_and (pt_cmpR op_eq (pe_k T (pv 1)) (pe_gi g_INFINITE) (nomark _)) (pw_and1 (pt_cmpR op_ne (pe_m T (pv 0)) (pe_m T (pv 1)) (nomark _))))) (pss_one (ps_ret (pe_def0 d_nan (hr.mono (by decide))))) pss_nil) (pss_one (ps_ret (pe_def d_infinity (hr.mono (by decide)) (pa_cons (pe_m T (pv 0)) pa_nil)))))), ?_⟩
    cases x with
    | nan => exact absurd rfl nx
    | inf a =>
      have hA := hx.inf
      cases y with
      | nan => exact absurd rfl ny
      | inf b =>
        have hB := hy.inf
        simp (decide := true) only [tSeq, tIfS, tTest, tOp, tUn, rI, rI0, rU, rEq, rNe, scal, tVar, tC, tRet, tAsg, gName, tCall, tCons, tNil, tNF, tNew, tIf, tB, tAnd, tOr, tNot, tAndV, tOrV, tNotV, tCB, tLst, tNext, tDrop, L2.start, Int.reduceToNat, List.map_cons, List.map_nil, List.length_cons, List.length_nil, List.replicate, Nat.reduceAdd, Nat.reduceSub, Nat.zero_add, Nat.add_zero, Nat.sub_self, List.replicate_zero, List.replicate_succ, List.cons_append, List.nil_append, List.append_nil, List.getElem?_cons_zero, List.getElem?_cons_succ, List.set_cons_zero, List.set_cons_succ, Option.some.injEq, exists_eq_left', exists_eq_left, exists_eq_right', V.int.injEq, V.ref.injEq, V.bl.injEq, V.str.injEq, List.cons.injEq, and_true, true_and, and_assoc, decide_eq_true_eq, Bool.not_eq_true', decide_eq_false_iff_not, ite_not, exists_and_left, ex_num hA, ex_num hB, if_true, if_false, sp_infinity, sp_nan]
        by_cases c1 : b2 a = b2 b
        · rw [if_pos c1]
          have e := b2_inj c1
          subst e
          intro H' r h4 hs
          refine k H' r ?_ hs
          rw [show add (.inf a) (.inf a) = .inf a from if_pos rfl]
          exact h4.inf
        · rw [if_neg c1]
          intro H' r h4 hs
          refine k H' r ?_ hs
          rw [show add (.inf a) (.inf b) = .nan from if_neg (fun z => c1 (by rw [z]))]
          exact h4.nan
      | fin b d f =>
        have hB := hy.fin
        simp (decide := true) only [tSeq, tIfS, tTest, tOp, tUn, rI, rI0, rU, rEq, rNe, scal, tVar, tC, tRet, tAsg, gName, tCall, tCons, tNil, tNF, tNew, tIf, tB, tAnd, tOr, tNot, tAndV, tOrV, tNotV, tCB, tLst, tNext, tDrop, L2.start, Int.reduceToNat, List.map_cons, List.map_nil, List.length_cons, List.length_nil, List.replicate, Nat.reduceAdd, Nat.reduceSub, Nat.zero_add, Nat.add_zero, Nat.sub_self, List.replicate_zero, List.replicate_succ, List.cons_append, List.nil_append, List.append_nil, List.getElem?_cons_zero, List.getElem?_cons_succ, List.set_cons_zero, List.set_cons_succ, Option.some.injEq, exists_eq_left', exists_eq_left, exists_eq_right', V.int.injEq, V.ref.injEq, V.bl.injEq, V.str.injEq, List.cons.injEq, and_true, true_and, and_assoc, decide_eq_true_eq, Bool.not_eq_true', decide_eq_false_iff_not, ite_not, exists_and_left, ex_num hA, ex_num hB, if_true, if_false, sp_infinity, sp_nan]
        exact fun H' r h4 hs => k H' r h4.inf hs
    | fin a c e =>
      have hA := hx.fin
      cases y with
      | nan => exact absurd rfl ny
      | inf b =>
        have hB := hy.inf
        simp (decide := true) only [tSeq, tIfS, tTest, tOp, tUn, rI, rI0, rU, rEq, rNe, scal, tVar, tC, tRet, tAsg, gName, tCall, tCons, tNil, tNF, tNew, tIf, tB, tAnd, tOr, tNot, tAndV, tOrV, tNotV, tCB, tLst, tNext, tDrop, L2.start, Int.reduceToNat, List.map_cons, List.map_nil, List.length_cons, List.length_nil, List.replicate, Nat.reduceAdd, Nat.reduceSub, Nat.zero_add, Nat.add_zero, Nat.sub_self, List.replicate_zero, List.replicate_succ, List.cons_append, List.nil_append, List.append_nil, List.getElem?_cons_zero, List.getElem?_cons_succ, List.set_cons_zero, List.set_cons_succ, Option.some.injEq, exists_eq_left', exists_eq_left, exists_eq_right', V.int.injEq, V.ref.injEq, V.bl.injEq, V.str.injEq, List.cons.injEq, and_true, true_and, and_assoc, decide_eq_true_eq, Bool.not_eq_true', decide_eq_false_iff_not, ite_not, exists_and_left, ex_num hA, ex_num hB, if_true, if_false, sp_infinity, sp_nan]
        exact fun H' r h4 hs => k H' r h4.inf hs
      | fin b d f => exact hi.elim (fun z => z.elim) (fun z => z.elim)
/-! ### signed_coefficient -/
abbrev s_signed_coefficient : Stmt := top 28
theorem sc_signed_coefficient : FnScope ["a", "exponent", "size"] ["a", "exponent"] (defScope s_signed_coefficient) := ⟨rfl, rfl, rfl, by decide +kernel, rfl, by decide +kernel, by decide +kernel⟩
def sp_signed_coefficient (C : Addr) : Sp := fun vs H Q _ => ∃ (p : Addr) (x : Int), vs = [.ref p, .int x] ∧ ∃ (a : Bool) (c : Nat) (e : Int), NumZ C H p (.fin a c e) ∧ c < TOP ∧ -1000 < e - x ∧ e - x < 1000 ∧ Q (.int ((if a then -1 else 1) * (c * 10 ^ (e - x).toNat : Nat))) H
theorem ok_signed_coefficient {f : Addr} {fd : FuncData} {C : Addr} (T : NumC K C) (d_ten_to : Def P w K mg base "ten_to" 1 ["n"] sp_ten_to) (F : Fun K "signed_coefficient" "signed_coefficient" s_signed_coefficient f fd) : FnOk P w K mg base CX0 2 f fd ["a", "exponent"] (sp_signed_coefficient C) := by
  refine F.ok sc_signed_coefficient (fun vs H Q E h => ?_) (fun cdv A outer s H vs Q E hr h => ?_)
  · obtain ⟨p, x, rfl, _⟩ := h
    rfl
  · obtain ⟨p, x, rfl, a, c, e, hz, h0, h1, h2, k⟩ := h
    have hA := hz.fin
    refine ⟨_, (pss_cons (ps_set (i := 2) sc_signed_coefficient.nd rfl (Or.inl rfl) (pe_op op_mulW (pe_c T (pv 0)) (pe_def d_ten_to (hr.mono (by decide)) (pa_cons (pe_op op_sub (pe_e T (pv 0)) (pv 1)) pa_nil)))) (pss_one (ps_ret (pe_ifExp (pt_cmpR op_eq (pe_m T (pv 0)) pe_int (nomark _)) (pe_un un_neg (pv 2)) (pv 2))))), ?_⟩
    simp (decide := true) only [tSeq, tIfS, tTest, tOp, tUn, rI, rI0, rU, rEq, rNe, scal, tVar, tC, tRet, tAsg, gName, tCall, tCons, tNil, tNF, tNew, tIf, tB, tAnd, tOr, tNot, tAndV, tOrV, tNotV, tCB, tLst, tNext, tDrop, L2.start, Int.reduceToNat, List.map_cons, List.map_nil, List.length_cons, List.length_nil, List.replicate, Nat.reduceAdd, Nat.reduceSub, Nat.zero_add, Nat.add_zero, Nat.sub_self, List.replicate_zero, List.replicate_succ, List.cons_append, List.nil_append, List.append_nil, List.getElem?_cons_zero, List.getElem?_cons_succ, List.set_cons_zero, List.set_cons_succ, Option.some.injEq, exists_eq_left', exists_eq_left, exists_eq_right', V.int.injEq, V.ref.injEq, V.bl.injEq, V.str.injEq, List.cons.injEq, and_true, true_and, and_assoc, decide_eq_true_eq, Bool.not_eq_true', decide_eq_false_iff_not, ite_not, exists_and_left, ex_num hA, sp_ten_to]
    refine ⟨by omega, by omega, .inl (.inl ⟨by omega, by unfold TOP at h0; omega⟩), ?_⟩
    cases a
    · rw [if_neg (by decide)]
      exact eqQ k (by simp)
    · rw [if_pos (by decide)]
      exact eqQ k (by simp)
/-! ### added -/
abbrev s_added : Stmt := top 26
theorem sc_added : FnScope ["a", "b", "lower", "total"] ["a", "b"] (defScope s_added) := ⟨rfl, rfl, rfl, by decide +kernel, rfl, by decide +kernel, by decide +kernel⟩
def sp_added (C : Addr) : Sp := fun vs H Q _ => ∃ p q : Addr, vs = [.ref p, .ref q] ∧ ∃ x : Num, NumZ C H p x ∧ ∃ y : Num, NumZ C H q y ∧ Fits x ∧ Fits y ∧ ∀ (H' : Hp) (r : Addr), NumZ C H' r (add x y) → Same H H' → Q (.ref r) H'
theorem ok_added {f : Addr} {fd : FuncData} {C : Addr} (T : NumC K C) (g_NAN : GI mg "NAN" (2)) (g_INFINITE : GI mg "INFINITE" (1)) (b_min : mg "min" = none) (b_abs : mg "abs" = none) (d_rounded : Def P w K mg base "rounded" 5 ["minus", "coefficient", "exponent", "wanted"] (sp_rounded C)) (d_nan : Def P w K mg base "nan" 3 [] (sp_nan C)) (d_added_with_infinity : Def P w K mg base "added_with_infinity" 4 ["a", "b"] (sp_added_with_infinity C)) (d_signed_coefficient : Def P w K mg base "signed_coefficient" 2 ["a", "exponent"] (sp_signed_coefficient C)) (F : Fun K "added" "added" s_added f fd) : FnOk P w K mg base CX0 6 f fd ["a", "b"] (sp_added C) := by
  refine F.ok sc_added (fun vs H Q E h => ?_) (fun cdv A outer s H vs Q E hr h => ?_)
  · obtain ⟨p, q, rfl, _⟩ := h
    rfl
  · obtain ⟨p, q, rfl, x, hx, y, hy, fx, fy, k⟩ := h
    refine ⟨_, (pss_cons (ps_if (PW.pt (pw_or (pt_cmpR op_eq (pe_k T (pv 0)) (pe_gi g_NAN) (nomark _)) (pw_or1 (pt_cmpR op_eq (pe_k T (pv 1)) (pe_gi g_NAN) (nomark _))))) (pss_one (ps_ret (pe_def0 d_nan (hr.mono (by decide))))) pss_nil) (pss_cons (ps_if (PW.pt (pw_or (pt_cmpR op_eq (pe_k T (pv 0)) (pe_gi g_INFINITE) (nomark _)) (pw_or1 (pt_cmpR op_eq (pe_k T (pv 1)) (pe_gi g_INFINITE) (nomark _))))) (pss_one (ps_ret (pe_def d_added_with_infinity (hr.mono (by decide)) (pa_cons (pv 0) (pa_cons (pv 1) pa_nil))))) pss_nil) (pss_cons (ps_set (i := 2) sc_added.nd rfl (Or.inl rfl) (pe_callB (call_min2 rfl) rfl b_min L2.ob_min (pa_cons (pe_e T (pv 0)) (pa_cons (pe_e T (pv 1)) pa_nil)))) (pss_cons (ps_set (i := 3) sc_added.nd rfl (Or.inl rfl) (pe_op op_add (pe_def d_signed_coefficient (hr.mono (by decide)) (pa_cons (pv 0) (pa_cons (pv 2) pa_nil))) (pe_def d_signed_coefficient (hr.mono (by decide)) (pa_cons (pv 1) (pa_cons (pv 2) pa_nil))))) (pss_cons (ps_if (pt_cmpR op_eq (pv 3) pe_int (nomark _)) (pss_one (ps_ret (pe_def d_rounded (hr.mono (by decide)) (pa_cons (pe_op op_and (pe_m T (pv 0)) (pe_m T (pv 1))) (pa_cons pe_int (pa_cons (pv 2) (pa_cons (pv 2) pa_nil))))))) pss_nil) (pss_one (ps_ret (pe_def d_rounded (hr.mono (by decide)) (pa_cons (pe_ifExp (pt_cmpR op_lt (pv 3) pe_int (nomark _)) pe_int pe_int) (pa_cons (pe_callB call_abs rfl b_abs L2.ob_abs (pa_cons (pv 3) pa_nil)) (pa_cons (pv 2) (pa_cons (pv 2) pa_nil)))))))))))), ?_⟩
    obtain ⟨n, hA, rx⟩ := id hx
    obtain ⟨m, hB, ry⟩ := id hy
    cases x with
    | nan =>
      have rx' : n.k = 2 := rx
      simp (decide := true) only [tSeq, tIfS, tTest, tOp, tUn, rI, rI0, rU, rEq, rNe, scal, tVar, tC, tRet, tAsg, gName, tCall, tCons, tNil, tNF, tNew, tIf, tB, tAnd, tOr, tNot, tAndV, tOrV, tNotV, tCB, tLst, tNext, tDrop, L2.start, Int.reduceToNat, List.map_cons, List.map_nil, List.length_cons, List.length_nil, List.replicate, Nat.reduceAdd, Nat.reduceSub, Nat.zero_add, Nat.add_zero, Nat.sub_self, List.replicate_zero, List.replicate_succ, List.cons_append, List.nil_append, List.append_nil, List.getElem?_cons_zero, List.getElem?_cons_succ, List.set_cons_zero, List.set_cons_succ, Option.some.injEq, exists_eq_left', exists_eq_left, exists_eq_right', V.int.injEq, V.ref.injEq, V.bl.injEq, V.str.injEq, List.cons.injEq, and_true, true_and, and_assoc, decide_eq_true_eq, Bool.not_eq_true', decide_eq_false_iff_not, ite_not, exists_and_left, ex_num hA, ex_num hB, if_pos rx', sp_nan]
      exact fun H' r h4 hs => k H' r (by cases y <;> exact h4.nan) hs
    | inf a =>
      have rx' : n = ⟨1, b2 a, 0, 0⟩ := rx
      subst rx'
      cases y with
      | nan =>
        have ry' : m.k = 2 := ry
        simp (decide := true) only [tSeq, tIfS, tTest, tOp, tUn, rI, rI0, rU, rEq, rNe, scal, tVar, tC, tRet, tAsg, gName, tCall, tCons, tNil, tNF, tNew, tIf, tB, tAnd, tOr, tNot, tAndV, tOrV, tNotV, tCB, tLst, tNext, tDrop, L2.start, Int.reduceToNat, List.map_cons, List.map_nil, List.length_cons, List.length_nil, List.replicate, Nat.reduceAdd, Nat.reduceSub, Nat.zero_add, Nat.add_zero, Nat.sub_self, List.replicate_zero, List.replicate_succ, List.cons_append, List.nil_append, List.append_nil, List.getElem?_cons_zero, List.getElem?_cons_succ, List.set_cons_zero, List.set_cons_succ, Option.some.injEq, exists_eq_left', exists_eq_left, exists_eq_right', V.int.injEq, V.ref.injEq, V.bl.injEq, V.str.injEq, List.cons.injEq, and_true, true_and, and_assoc, decide_eq_true_eq, Bool.not_eq_true', decide_eq_false_iff_not, ite_not, exists_and_left, ex_num hA, ex_num hB, if_pos ry', if_true, if_false, sp_nan]
        exact fun H' r h4 hs => k H' r h4.nan hs
      | inf b =>
        have ry' : m = ⟨1, b2 b, 0, 0⟩ := ry
        subst ry'
        simp (decide := true) only [tSeq, tIfS, tTest, tOp, tUn, rI, rI0, rU, rEq, rNe, scal, tVar, tC, tRet, tAsg, gName, tCall, tCons, tNil, tNF, tNew, tIf, tB, tAnd, tOr, tNot, tAndV, tOrV, tNotV, tCB, tLst, tNext, tDrop, L2.start, Int.reduceToNat, List.map_cons, List.map_nil, List.length_cons, List.length_nil, List.replicate, Nat.reduceAdd, Nat.reduceSub, Nat.zero_add, Nat.add_zero, Nat.sub_self, List.replicate_zero, List.replicate_succ, List.cons_append, List.nil_append, List.append_nil, List.getElem?_cons_zero, List.getElem?_cons_succ, List.set_cons_zero, List.set_cons_succ, Option.some.injEq, exists_eq_left', exists_eq_left, exists_eq_right', V.int.injEq, V.ref.injEq, V.bl.injEq, V.str.injEq, List.cons.injEq, and_true, true_and, and_assoc, decide_eq_true_eq, Bool.not_eq_true', decide_eq_false_iff_not, ite_not, exists_and_left, ex_num hA, ex_num hB, if_true, if_false, sp_added_with_infinity, ex_z hx, ex_z hy]
        exact ⟨by simp, by simp, .inl trivial, k⟩
      | fin b d f =>
        have ry' : m = ⟨0, b2 b, d, f⟩ := ry
        subst ry'
        simp (decide := true) only [tSeq, tIfS, tTest, tOp, tUn, rI, rI0, rU, rEq, rNe, scal, tVar, tC, tRet, tAsg, gName, tCall, tCons, tNil, tNF, tNew, tIf, tB, tAnd, tOr, tNot, tAndV, tOrV, tNotV, tCB, tLst, tNext, tDrop, L2.start, Int.reduceToNat, List.map_cons, List.map_nil, List.length_cons, List.length_nil, List.replicate, Nat.reduceAdd, Nat.reduceSub, Nat.zero_add, Nat.add_zero, Nat.sub_self, List.replicate_zero, List.replicate_succ, List.cons_append, List.nil_append, List.append_nil, List.getElem?_cons_zero, List.getElem?_cons_succ, List.set_cons_zero, List.set_cons_succ, Option.some.injEq, exists_eq_left', exists_eq_left, exists_eq_right', V.int.injEq, V.ref.injEq, V.bl.injEq, V.str.injEq, List.cons.injEq, and_true, true_and, and_assoc, decide_eq_true_eq, Bool.not_eq_true', decide_eq_false_iff_not, ite_not, exists_and_left, ex_num hA, ex_num hB, if_true, if_false, sp_added_with_infinity, ex_z hx, ex_z hy]
        exact ⟨by simp, by simp, .inl trivial, k⟩
    | fin a c e =>
      have rx' : n = ⟨0, b2 a, c, e⟩ := rx
      subst rx'
      cases y with
      | nan =>
        have ry' : m.k = 2 := ry
        simp (decide := true) only [tSeq, tIfS, tTest, tOp, tUn, rI, rI0, rU, rEq, rNe, scal, tVar, tC, tRet, tAsg, gName, tCall, tCons, tNil, tNF, tNew, tIf, tB, tAnd, tOr, tNot, tAndV, tOrV, tNotV, tCB, tLst, tNext, tDrop, L2.start, Int.reduceToNat, List.map_cons, List.map_nil, List.length_cons, List.length_nil, List.replicate, Nat.reduceAdd, Nat.reduceSub, Nat.zero_add, Nat.add_zero, Nat.sub_self, List.replicate_zero, List.replicate_succ, List.cons_append, List.nil_append, List.append_nil, List.getElem?_cons_zero, List.getElem?_cons_succ, List.set_cons_zero, List.set_cons_succ, Option.some.injEq, exists_eq_left', exists_eq_left, exists_eq_right', V.int.injEq, V.ref.injEq, V.bl.injEq, V.str.injEq, List.cons.injEq, and_true, true_and, and_assoc, decide_eq_true_eq, Bool.not_eq_true', decide_eq_false_iff_not, ite_not, exists_and_left, ex_num hA, ex_num hB, if_pos ry', if_true, if_false, sp_nan]
        exact fun H' r h4 hs => k H' r h4.nan hs
      | inf b =>
        have ry' : m = ⟨1, b2 b, 0, 0⟩ := ry
        subst ry'
        simp (decide := true) only [tSeq, tIfS, tTest, tOp, tUn, rI, rI0, rU, rEq, rNe, scal, tVar, tC, tRet, tAsg, gName, tCall, tCons, tNil, tNF, tNew, tIf, tB, tAnd, tOr, tNot, tAndV, tOrV, tNotV, tCB, tLst, tNext, tDrop, L2.start, Int.reduceToNat, List.map_cons, List.map_nil, List.length_cons, List.length_nil, List.replicate, Nat.reduceAdd, Nat.reduceSub, Nat.zero_add, Nat.add_zero, Nat.sub_self, List.replicate_zero, List.replicate_succ, List.cons_append, List.nil_append, List.append_nil, List.getElem?_cons_zero, List.getElem?_cons_succ, List.set_cons_zero, List.set_cons_succ, Option.some.injEq, exists_eq_left', exists_eq_left, exists_eq_right', V.int.injEq, V.ref.injEq, V.bl.injEq, V.str.injEq, List.cons.injEq, and_true, true_and, and_assoc, decide_eq_true_eq, Bool.not_eq_true', decide_eq_false_iff_not, ite_not, exists_and_left, ex_num hA, ex_num hB, if_true, if_false, sp_added_with_infinity, ex_z hx, ex_z hy]
        exact ⟨by simp, by simp, .inr trivial, k⟩
      | fin b d f =>
        have ry' : m = ⟨0, b2 b, d, f⟩ := ry
        subst ry'
        obtain ⟨f1, f2, f3⟩ := fx
        obtain ⟨f4, f5, f6⟩ := fy
        have em : (if f < e then f else e) = min e f := by split <;> omega
        simp (decide := true) only [tSeq, tIfS, tTest, tOp, tUn, rI, rI0, rU, rEq, rNe, scal, tVar, tC, tRet, tAsg, gName, tCall, tCons, tNil, tNF, tNew, tIf, tB, tAnd, tOr, tNot, tAndV, tOrV, tNotV, tCB, tLst, tNext, tDrop, L2.start, Int.reduceToNat, List.map_cons, List.map_nil, List.length_cons, List.length_nil, List.replicate, Nat.reduceAdd, Nat.reduceSub, Nat.zero_add, Nat.add_zero, Nat.sub_self, List.replicate_zero, List.replicate_succ, List.cons_append, List.nil_append, List.append_nil, List.getElem?_cons_zero, List.getElem?_cons_succ, List.set_cons_zero, List.set_cons_succ, Option.some.injEq, exists_eq_left', exists_eq_left, exists_eq_right', V.int.injEq, V.ref.injEq, V.bl.injEq, V.str.injEq, List.cons.injEq, and_true, true_and, and_assoc, decide_eq_true_eq, Bool.not_eq_true', decide_eq_false_iff_not, ite_not, exists_and_left, ex_num hA, ex_num hB, if_true, if_false, sp_signed_coefficient, ex_fin hx, ex_fin hy, sp_rounded, em, bitAnd_b2]
        refine ⟨f1, by omega, by omega, f4, by omega, by omega, ?_⟩
        have hb := sum_lt (a := a) (b := b) (c := c) (d := d) (i := (e - min e f).toNat) (j := (f - min e f).toNat) f1 f4 (by omega) (by omega)
        have ha := add_fin a b c d e f
        generalize ((if a then -1 else 1) * ((c * 10 ^ (e - min e f).toNat : Nat) : Int) + (if b then -1 else 1) * ((d * 10 ^ (f - min e f).toNat : Nat) : Int)) = t at hb ha ⊢
        rw [ha] at k
        by_cases c1 : t = 0
        · rw [if_pos c1] at k ⊢
          refine ⟨a && b, rfl, 0, rfl, ten_pos _, by omega, by omega, ?_⟩
          rw [show (ratio 0 (min e f)).1 = 0 by rw [ratio_eq]; exact Nat.zero_mul _, fit_zero, show clampIn (-398) (min e f) 369 = min e f by unfold clampIn; omega]
          exact k
        · rw [if_neg c1] at k ⊢
          by_cases c2 : t < 0
          · rw [if_pos c2]
            rw [decide_eq_true c2] at k
            exact ⟨true, rfl, t.natAbs, by rw [if_pos c2]; omega, hb, by omega, by omega, k⟩
          · rw [if_neg c2]
            rw [decide_eq_false c2] at k
            exact ⟨false, rfl, t.natAbs, by rw [if_neg c2]; omega, hb, by omega, by omega, k⟩
/-! ### multiplied -/
abbrev s_multiplied : Stmt := top 29
theorem sc_multiplied : FnScope ["a", "b", "minus", "exponent"] ["a", "b"] (defScope s_multiplied) := ⟨rfl, rfl, rfl, by decide +kernel, rfl, by decide +kernel, by decide +kernel⟩
def sp_multiplied (C : Addr) : Sp := fun vs H Q _ => ∃ p q : Addr, vs = [.ref p, .ref q] ∧ ∃ x : Num, NumZ C H p x ∧ ∃ y : Num, NumZ C H q y ∧ Fits x ∧ Fits y ∧ ∀ (H' : Hp) (r : Addr), NumZ C H' r (mul x y) → Same H H' → Q (.ref r) H'
theorem ok_multiplied {f : Addr} {fd : FuncData} {C : Addr} (T : NumC K C) (g_NAN : GI mg "NAN" (2)) (g_INFINITE : GI mg "INFINITE" (1)) (d_rounded : Def P w K mg base "rounded" 5 ["minus", "coefficient", "exponent", "wanted"] (sp_rounded C)) (d_nan : Def P w K mg base "nan" 3 [] (sp_nan C)) (d_infinity : Def P w K mg base "infinity" 3 ["minus"] (sp_infinity C)) (d_is_zero : Def P w K mg base "is_zero" 1 ["number"] (sp_is_zero C)) (F : Fun K "multiplied" "multiplied" s_multiplied f fd) : FnOk P w K mg base CX0 6 f fd ["a", "b"] (sp_multiplied C) := by
  refine F.ok sc_multiplied (fun vs H Q E h => ?_) (fun cdv A outer s H vs Q E hr h => ?_)
  · obtain ⟨p, q, rfl, _⟩ := h
    rfl
  · obtain ⟨p, q, rfl, x, hx, y, hy, fx, fy, k⟩ := h
    refine ⟨_, (pss_cons (ps_if (PW.pt (pw_or (pt_cmpR op_eq (pe_k T (pv 0)) (pe_gi g_NAN) (nomark _)) (pw_or1 (pt_cmpR op_eq (pe_k T (pv 1)) (pe_gi g_NAN) (nomark _))))) (pss_one (ps_ret (pe_def0 d_nan (hr.mono (by decide))))) pss_nil) (pss_cons (ps_set (i := 2) sc_multiplied.nd rfl (Or.inl rfl) (pe_op op_xor (pe_m T (pv 0)) (pe_m T (pv 1)))) (pss_cons (ps_if (PW.pt (pw_or (pt_cmpR op_eq (pe_k T (pv 0)) (pe_gi g_INFINITE) (nomark _)) (pw_or1 (pt_cmpR op_eq (pe_k T (pv 1)) (pe_gi g_INFINITE) (nomark _))))) (pss_one (ps_ret (pe_ifExp (PW.pt (pw_or (pt_val (pe_def d_is_zero (hr.mono (by decide)) (pa_cons (pv 0) pa_nil))) (pw_or1 (pt_val (pe_def d_is_zero (hr.mono (by decide)) (pa_cons (pv 1) pa_nil)))))) (pe_def0 d_nan (hr.mono (by decide))) (pe_def d_infinity (hr.mono (by decide)) (pa_cons (pv 2) pa_nil))))) pss_nil) (pss_cons (ps_set (i := 3) sc_multiplied.nd rfl (Or.inl rfl) (pe_op op_add (pe_e T (pv 0)) (pe_e T (pv 1)))) (pss_one (ps_ret (pe_def d_rounded (hr.mono (by decide)) (pa_cons (pv 2) (pa_cons (pe_op op_mulW (pe_c T (pv 0)) (pe_c T (pv 1))) (pa_cons (pv 3) (pa_cons (pv 3) pa_nil))))))))))), ?_⟩
    obtain ⟨n, hA, rx⟩ := id hx
    obtain ⟨m, hB, ry⟩ := id hy
    cases x with
    | nan =>
      have rx' : n.k = 2 := rx
      simp (decide := true) only [tSeq, tIfS, tTest, tOp, tUn, rI, rI0, rU, rEq, rNe, scal, tVar, tC, tRet, tAsg, gName, tCall, tCons, tNil, tNF, tNew, tIf, tB, tAnd, tOr, tNot, tAndV, tOrV, tNotV, tCB, tLst, tNext, tDrop, L2.start, Int.reduceToNat, List.map_cons, List.map_nil, List.length_cons, List.length_nil, List.replicate, Nat.reduceAdd, Nat.reduceSub, Nat.zero_add, Nat.add_zero, Nat.sub_self, List.replicate_zero, List.replicate_succ, List.cons_append, List.nil_append, List.append_nil, List.getElem?_cons_zero, List.getElem?_cons_succ, List.set_cons_zero, List.set_cons_succ, Option.some.injEq, exists_eq_left', exists_eq_left, exists_eq_right', V.int.injEq, V.ref.injEq, V.bl.injEq, V.str.injEq, List.cons.injEq, and_true, true_and, and_assoc, decide_eq_true_eq, Bool.not_eq_true', decide_eq_false_iff_not, ite_not, exists_and_left, ex_num hA, ex_num hB, if_pos rx', sp_nan]
      exact fun H' r h4 hs => k H' r (by cases y <;> exact h4.nan) hs
    | inf a =>
      have rx' : n = ⟨1, b2 a, 0, 0⟩ := rx
      subst rx'
      cases y with
      | nan =>
        have ry' : m.k = 2 := ry
        simp (decide := true) only [tSeq, tIfS, tTest, tOp, tUn, rI, rI0, rU, rEq, rNe, scal, tVar, tC, tRet, tAsg, gName, tCall, tCons, tNil, tNF, tNew, tIf, tB, tAnd, tOr, tNot, tAndV, tOrV, tNotV, tCB, tLst, tNext, tDrop, L2.start, Int.reduceToNat, List.map_cons, List.map_nil, List.length_cons, List.length_nil, List.replicate, Nat.reduceAdd, Nat.reduceSub, Nat.zero_add, Nat.add_zero, Nat.sub_self, List.replicate_zero, List.replicate_succ, List.cons_append, List.nil_append, List.append_nil, List.getElem?_cons_zero, List.getElem?_cons_succ, List.set_cons_zero, List.set_cons_succ, Option.some.injEq, exists_eq_left', exists_eq_left, exists_eq_right', V.int.injEq, V.ref.injEq, V.bl.injEq, V.str.injEq, List.cons.injEq, and_true, true_and, and_assoc, decide_eq_true_eq, Bool.not_eq_true', decide_eq_false_iff_not, ite_not, exists_and_left, ex_num hA, ex_num hB, if_pos ry', if_true, if_false, sp_nan]
        exact fun H' r h4 hs => k H' r h4.nan hs
      | inf b =>
        have ry' : m = ⟨1, b2 b, 0, 0⟩ := ry
        subst ry'
        simp (decide := true) only [tSeq, tIfS, tTest, tOp, tUn, rI, rI0, rU, rEq, rNe, scal, tVar, tC, tRet, tAsg, gName, tCall, tCons, tNil, tNF, tNew, tIf, tB, tAnd, tOr, tNot, tAndV, tOrV, tNotV, tCB, tLst, tNext, tDrop, L2.start, Int.reduceToNat, List.map_cons, List.map_nil, List.length_cons, List.length_nil, List.replicate, Nat.reduceAdd, Nat.reduceSub, Nat.zero_add, Nat.add_zero, Nat.sub_self, List.replicate_zero, List.replicate_succ, List.cons_append, List.nil_append, List.append_nil, List.getElem?_cons_zero, List.getElem?_cons_succ, List.set_cons_zero, List.set_cons_succ, Option.some.injEq, exists_eq_left', exists_eq_left, exists_eq_right', V.int.injEq, V.ref.injEq, V.bl.injEq, V.str.injEq, List.cons.injEq, and_true, true_and, and_assoc, decide_eq_true_eq, Bool.not_eq_true', decide_eq_false_iff_not, ite_not, exists_and_left, ex_num hA, ex_num hB, if_true, if_false, sp_nan, sp_infinity, sp_is_zero, ex_z hx, ex_z hy, isZ, bitXor_b2, Bool.false_eq_true]
        exact fun H' r h4 hs => k H' r h4.inf hs
      | fin b d f =>
        have ry' : m = ⟨0, b2 b, d, f⟩ := ry
        subst ry'
        simp (decide := true) only [tSeq, tIfS, tTest, tOp, tUn, rI, rI0, rU, rEq, rNe, scal, tVar, tC, tRet, tAsg, gName, tCall, tCons, tNil, tNF, tNew, tIf, tB, tAnd, tOr, tNot, tAndV, tOrV, tNotV, tCB, tLst, tNext, tDrop, L2.start, Int.reduceToNat, List.map_cons, List.map_nil, List.length_cons, List.length_nil, List.replicate, Nat.reduceAdd, Nat.reduceSub, Nat.zero_add, Nat.add_zero, Nat.sub_self, List.replicate_zero, List.replicate_succ, List.cons_append, List.nil_append, List.append_nil, List.getElem?_cons_zero, List.getElem?_cons_succ, List.set_cons_zero, List.set_cons_succ, Option.some.injEq, exists_eq_left', exists_eq_left, exists_eq_right', V.int.injEq, V.ref.injEq, V.bl.injEq, V.str.injEq, List.cons.injEq, and_true, true_and, and_assoc, decide_eq_true_eq, Bool.not_eq_true', decide_eq_false_iff_not, ite_not, exists_and_left, ex_num hA, ex_num hB, if_true, if_false, sp_nan, sp_infinity, sp_is_zero, ex_z hx, ex_z hy, isZ, bitXor_b2, Bool.false_eq_true]
        by_cases c1 : d = 0
        · rw [if_pos c1]
          rw [show mul (.inf a) (.fin b d f) = .nan from if_pos c1] at k
          exact fun H' r h4 hs => k H' r h4.nan hs
        · rw [if_neg c1]
          rw [show mul (.inf a) (.fin b d f) = .inf (a != b) from if_neg c1] at k
          exact fun H' r h4 hs => k H' r h4.inf hs
    | fin a c e =>
      have rx' : n = ⟨0, b2 a, c, e⟩ := rx
      subst rx'
      cases y with
      | nan =>
        have ry' : m.k = 2 := ry
        simp (decide := true) only [tSeq, tIfS, tTest, tOp, tUn, rI, rI0, rU, rEq, rNe, scal, tVar, tC, tRet, tAsg, gName, tCall, tCons, tNil, tNF, tNew, tIf, tB, tAnd, tOr, tNot, tAndV, tOrV, tNotV, tCB, tLst, tNext, tDrop, L2.start, Int.reduceToNat, List.map_cons, List.map_nil, List.length_cons, List.length_nil, List.replicate, Nat.reduceAdd, Nat.reduceSub, Nat.zero_add, Nat.add_zero, Nat.sub_self, List.replicate_zero, List.replicate_succ, List.cons_append, List.nil_append, List.append_nil, List.getElem?_cons_zero, List.getElem?_cons_succ, List.set_cons_zero, List.set_cons_succ, Option.some.injEq, exists_eq_left', exists_eq_left, exists_eq_right', V.int.injEq, V.ref.injEq, V.bl.injEq, V.str.injEq, List.cons.injEq, and_true, true_and, and_assoc, decide_eq_true_eq, Bool.not_eq_true', decide_eq_false_iff_not, ite_not, exists_and_left, ex_num hA, ex_num hB, if_pos ry', if_true, if_false, sp_nan]
        exact fun H' r h4 hs => k H' r h4.nan hs
      | inf b =>
        have ry' : m = ⟨1, b2 b, 0, 0⟩ := ry
        subst ry'
        simp (decide := true) only [tSeq, tIfS, tTest, tOp, tUn, rI, rI0, rU, rEq, rNe, scal, tVar, tC, tRet, tAsg, gName, tCall, tCons, tNil, tNF, tNew, tIf, tB, tAnd, tOr, tNot, tAndV, tOrV, tNotV, tCB, tLst, tNext, tDrop, L2.start, Int.reduceToNat, List.map_cons, List.map_nil, List.length_cons, List.length_nil, List.replicate, Nat.reduceAdd, Nat.reduceSub, Nat.zero_add, Nat.add_zero, Nat.sub_self, List.replicate_zero, List.replicate_succ, List.cons_append, List.nil_append, List.append_nil, List.getElem?_cons_zero, List.getElem?_cons_succ, List.set_cons_zero, List.set_cons_succ, Option.some.injEq, exists_eq_left', exists_eq_left, exists_eq_right', V.int.injEq, V.ref.injEq, V.bl.injEq, V.str.injEq, List.cons.injEq, and_true, true_and, and_assoc, decide_eq_true_eq, Bool.not_eq_true', decide_eq_false_iff_not, ite_not, exists_and_left, ex_num hA, ex_num hB, if_true, if_false, sp_nan, sp_infinity, sp_is_zero, ex_z hx, ex_z hy, isZ, bitXor_b2, Bool.false_eq_true]
        by_cases c1 : c = 0
        · rw [if_pos c1]
          rw [show mul (.fin a c e) (.inf b) = .nan from if_pos c1] at k
          exact fun H' r h4 hs => k H' r h4.nan hs
        · rw [if_neg c1]
          rw [show mul (.fin a c e) (.inf b) = .inf (a != b) from if_neg c1] at k
          exact fun H' r h4 hs => k H' r h4.inf hs
      | fin b d f =>
        have ry' : m = ⟨0, b2 b, d, f⟩ := ry
        subst ry'
        obtain ⟨f1, f2, f3⟩ := fx
        obtain ⟨f4, f5, f6⟩ := fy
        simp (decide := true) only [tSeq, tIfS, tTest, tOp, tUn, rI, rI0, rU, rEq, rNe, scal, tVar, tC, tRet, tAsg, gName, tCall, tCons, tNil, tNF, tNew, tIf, tB, tAnd, tOr, tNot, tAndV, tOrV, tNotV, tCB, tLst, tNext, tDrop, L2.start, Int.reduceToNat, List.map_cons, List.map_nil, List.length_cons, List.length_nil, List.replicate, Nat.reduceAdd, Nat.reduceSub, Nat.zero_add, Nat.add_zero, Nat.sub_self, List.replicate_zero, List.replicate_succ, List.cons_append, List.nil_append, List.append_nil, List.getElem?_cons_zero, List.getElem?_cons_succ, List.set_cons_zero, List.set_cons_succ, Option.some.injEq, exists_eq_left', exists_eq_left, exists_eq_right', V.int.injEq, V.ref.injEq, V.bl.injEq, V.str.injEq, List.cons.injEq, and_true, true_and, and_assoc, decide_eq_true_eq, Bool.not_eq_true', decide_eq_false_iff_not, ite_not, exists_and_left, ex_num hA, ex_num hB, if_true, if_false, sp_rounded, bitXor_b2]
        have f1' : c < 10 ^ 16 := f1
        refine ⟨.inl (.inl ⟨by omega, by omega⟩), a != b, rfl, c * d, by simp, prod_lt f1 f4, by omega, by omega, k⟩
/-! ### with_rest_marked -/
abbrev s_with_rest_marked : Stmt := top 31
theorem sc_with_rest_marked : FnScope ["digits", "rest"] ["digits", "rest"] (defScope s_with_rest_marked) := ⟨rfl, rfl, rfl, by decide +kernel, rfl, by decide +kernel, by decide +kernel⟩
def sp_with_rest_marked : Sp := fun vs H Q _ => ∃ d r : Int, vs = [.int d, .int r] ∧ Q (.int (d * 10 + (if 0 < r then 1 else 0))) H
theorem ok_with_rest_marked {f : Addr} {fd : FuncData}  (F : Fun K "with_rest_marked" "with_rest_marked" s_with_rest_marked f fd) : FnOk P w K mg base CX0 1 f fd ["digits", "rest"] sp_with_rest_marked := by
  refine F.ok sc_with_rest_marked (fun vs H Q E h => ?_) (fun cdv A outer s H vs Q E hr h => ?_)
  · obtain ⟨d, r, rfl, _⟩ := h
    rfl
  · obtain ⟨d, r, rfl, k⟩ := h
    refine ⟨_, (pss_one (ps_ret (pe_op op_add (pe_op op_mulW (pv 0) pe_int) (pe_ifExp (pt_cmpR op_gt (pv 1) pe_int (nomark _)) pe_int pe_int)))), ?_⟩
    simp (decide := true) only [tSeq, tIfS, tTest, tOp, tUn, rI, rI0, rU, rEq, rNe, scal, tVar, tC, tRet, tAsg, gName, tCall, tCons, tNil, tNF, tNew, tIf, tB, tAnd, tOr, tNot, tAndV, tOrV, tNotV, tCB, tLst, tNext, tDrop, L2.start, Int.reduceToNat, List.map_cons, List.map_nil, List.length_cons, List.length_nil, List.replicate, Nat.reduceAdd, Nat.reduceSub, Nat.zero_add, Nat.add_zero, Nat.sub_self, List.replicate_zero, List.replicate_succ, List.cons_append, List.nil_append, List.append_nil, List.getElem?_cons_zero, List.getElem?_cons_succ, List.set_cons_zero, List.set_cons_succ, Option.some.injEq, exists_eq_left', exists_eq_left, exists_eq_right', V.int.injEq, V.ref.injEq, V.bl.injEq, V.str.injEq, List.cons.injEq, and_true, true_and, and_assoc, decide_eq_true_eq, Bool.not_eq_true', decide_eq_false_iff_not, ite_not, exists_and_left]
    refine ⟨.inl (.inr ⟨by decide, by decide⟩), ?_⟩
    by_cases c1 : 0 < r
    · rw [if_pos c1] at k ⊢
      exact k
    · rw [if_neg c1] at k ⊢
      exact k
/-! ### divided -/
abbrev s_divided : Stmt := top 30
theorem sc_divided : FnScope ["a", "b", "minus", "wanted", "scaled", "digits"] ["a", "b"] (defScope s_divided) := ⟨rfl, rfl, rfl, by decide +kernel, rfl, by decide +kernel, by decide +kernel⟩
def sp_divided (C : Addr) : Sp := fun vs H Q _ => ∃ p q : Addr, vs = [.ref p, .ref q] ∧ ∃ x : Num, NumZ C H p x ∧ ∃ y : Num, NumZ C H q y ∧ Fits x ∧ Fits y ∧ ∀ (H' : Hp) (r : Addr), NumZ C H' r (over x y) → Same H H' → Q (.ref r) H'
theorem ok_divided {f : Addr} {fd : FuncData} {C : Addr} (T : NumC K C) (g_INFINITE : GI mg "INFINITE" (1)) (g_NAN : GI mg "NAN" (2)) (d_is_zero : Def P w K mg base "is_zero" 1 ["number"] (sp_is_zero C)) (d_with_rest_marked : Def P w K mg base "with_rest_marked" 1 ["digits", "rest"] sp_with_rest_marked) (d_rounded : Def P w K mg base "rounded" 5 ["minus", "coefficient", "exponent", "wanted"] (sp_rounded C)) (d_nan : Def P w K mg base "nan" 3 [] (sp_nan C)) (d_finite : Def P w K mg base "finite" 3 ["minus", "coefficient", "exponent"] (sp_finite C)) (d_infinity : Def P w K mg base "infinity" 3 ["minus"] (sp_infinity C)) (F : Fun K "divided" "divided" s_divided f fd) : FnOk P w K mg base CX0 6 f fd ["a", "b"] (sp_divided C) := by
  refine F.ok sc_divided (fun vs H Q E h => ?_) (fun cdv A outer s H vs Q E hr h => ?_)
  · obtain ⟨p, q, rfl, _⟩ := h
    rfl
  · obtain ⟨p, q, rfl, x, hx, y, hy, fx, fy, k⟩ := h
    refine ⟨_, (pss_cons (ps_if (PW.pt (pw_or (pt_cmpR op_eq (pe_k T (pv 0)) (pe_gi g_NAN) (nomark _)) (pw_or1 (pt_cmpR op_eq (pe_k T (pv 1)) (pe_gi g_NAN) (nomark _))))) (pss_one (ps_ret (pe_def0 d_nan (hr.mono (by decide))))) pss_nil) (pss_cons (ps_set (i := 2) sc_divided.nd rfl (Or.inl rfl) (pe_op op_xor (pe_m T (pv 0)) (pe_m T (pv 1)))) (pss_cons (ps_if (pt_cmpR op_eq (pe_k T (pv 0)) (pe_gi g_INFINITE) (nomark _)) (pss_one (ps_ret (pe_ifExp (pt_cmpR op_eq (pe_k T (pv 1)) (pe_gi g_INFINITE) (nomark _)) (pe_def0 d_nan (hr.mono (by decide))) (pe_def d_infinity (hr.mono (by decide)) (pa_cons (pv 2) pa_nil))))) pss_nil) (pss_cons (ps_if (pt_cmpR op_eq (pe_k T (pv 1)) (pe_gi g_INFINITE) (nomark _)) (pss_one (ps_ret (pe_def d_finite (hr.mono (by decide)) (pa_cons (pv 2) (pa_cons pe_int (pa_cons pe_int pa_nil)))))) pss_nil) (pss_cons (ps_if (pt_val (pe_def d_is_zero (hr.mono (by decide)) (pa_cons (pv 1) pa_nil))) (pss_one (ps_ret (pe_ifExp (pt_val (pe_def d_is_zero (hr.mono (by decide)) (pa_cons (pv 0) pa_nil))) (pe_def0 d_nan (hr.mono (by decide))) (pe_def d_infinity (hr.mono (by decide)) (pa_cons (pv 2) pa_nil))))) pss_nil) (pss_cons (ps_set (i := 3) sc_divided.nd rfl (Or.inl rfl) (pe_op op_sub (pe_e T (pv 0)) (pe_e T (pv 1)))) (pss_cons (ps_set (i := 4) sc_divided.nd rfl (Or.inl rfl) (pe_op op_mulW (pe_c T (pv 0)) (pe_op op_pow pe_int pe_int))) (pss_cons (ps_set (i := 5) sc_divided.nd rfl (Or.inl rfl) (pe_def d_with_rest_marked (hr.mono (by decide)) (pa_cons (pe_op op_fdivW (pv 4) (pe_c T (pv 1))) (pa_cons (pe_op op_mod (pv 4) (pe_c T (pv 1))) pa_nil)))) (pss_one (ps_ret (pe_def d_rounded (hr.mono (by decide)) (pa_cons (pv 2) (pa_cons (pv 5) (pa_cons (pe_op op_sub (pv 3) pe_int) (pa_cons (pv 3) pa_nil))))))))))))))), ?_⟩
    obtain ⟨n, hA, rx⟩ := id hx
    obtain ⟨m, hB, ry⟩ := id hy
    cases x with
    | nan =>
      have rx' : n.k = 2 := rx
      simp (decide := true) only [tSeq, tIfS, tTest, tOp, tUn, rI, rI0, rU, rEq, rNe, scal, tVar, tC, tRet, tAsg, gName, tCall, tCons, tNil, tNF, tNew, tIf, tB, tAnd, tOr, tNot, tAndV, tOrV, tNotV, tCB, tLst, tNext, tDrop, L2.start, Int.reduceToNat, List.map_cons, List.map_nil, List.length_cons, List.length_nil, List.replicate, Nat.reduceAdd, Nat.reduceSub, Nat.zero_add, Nat.add_zero, Nat.sub_self, List.replicate_zero, List.replicate_succ, List.cons_append, List.nil_append, List.append_nil, List.getElem?_cons_zero, List.getElem?_cons_succ, List.set_cons_zero, List.set_cons_succ, Option.some.injEq, exists_eq_left', exists_eq_left, exists_eq_right', V.int.injEq, V.ref.injEq, V.bl.injEq, V.str.injEq, List.cons.injEq, and_true, true_and, and_assoc, decide_eq_true_eq, Bool.not_eq_true', decide_eq_false_iff_not, ite_not, exists_and_left, ex_num hA, ex_num hB, if_pos rx', sp_nan]
      exact fun H' r h4 hs => k H' r (by cases y <;> exact h4.nan) hs
    | inf a =>
      have rx' : n = ⟨1, b2 a, 0, 0⟩ := rx
      subst rx'
      cases y with
      | nan =>
        have ry' : m.k = 2 := ry
        simp (decide := true) only [tSeq, tIfS, tTest, tOp, tUn, rI, rI0, rU, rEq, rNe, scal, tVar, tC, tRet, tAsg, gName, tCall, tCons, tNil, tNF, tNew, tIf, tB, tAnd, tOr, tNot, tAndV, tOrV, tNotV, tCB, tLst, tNext, tDrop, L2.start, Int.reduceToNat, List.map_cons, List.map_nil, List.length_cons, List.length_nil, List.replicate, Nat.reduceAdd, Nat.reduceSub, Nat.zero_add, Nat.add_zero, Nat.sub_self, List.replicate_zero, List.replicate_succ, List.cons_append, List.nil_append, List.append_nil, List.getElem?_cons_zero, List.getElem?_cons_succ, List.set_cons_zero, List.set_cons_succ, Option.some.injEq, exists_eq_left', exists_eq_left, exists_eq_right', V.int.injEq, V.ref.injEq, V.bl.injEq, V.str.injEq, List.cons.injEq, and_true, true_and, and_assoc, decide_eq_true_eq, Bool.not_eq_true', decide_eq_false_iff_not, ite_not, exists_and_left, ex_num hA, ex_num hB, if_pos ry', if_true, if_false, sp_nan]
        exact fun H' r h4 hs => k H' r h4.nan hs
      | inf b =>
        have ry' : m = ⟨1, b2 b, 0, 0⟩ := ry
        subst ry'
        simp (decide := true) only [tSeq, tIfS, tTest, tOp, tUn, rI, rI0, rU, rEq, rNe, scal, tVar, tC, tRet, tAsg, gName, tCall, tCons, tNil, tNF, tNew, tIf, tB, tAnd, tOr, tNot, tAndV, tOrV, tNotV, tCB, tLst, tNext, tDrop, L2.start, Int.reduceToNat, List.map_cons, List.map_nil, List.length_cons, List.length_nil, List.replicate, Nat.reduceAdd, Nat.reduceSub, Nat.zero_add, Nat.add_zero, Nat.sub_self, List.replicate_zero, List.replicate_succ, List.cons_append, List.nil_append, List.append_nil, List.getElem?_cons_zero, List.getElem?_cons_succ, List.set_cons_zero, List.set_cons_succ, Option.some.injEq, exists_eq_left', exists_eq_left, exists_eq_right', V.int.injEq, V.ref.injEq, V.bl.injEq, V.str.injEq, List.cons.injEq, and_true, true_and, and_assoc, decide_eq_true_eq, Bool.not_eq_true', decide_eq_false_iff_not, ite_not, exists_and_left, ex_num hA, ex_num hB, if_true, if_false, sp_nan, sp_infinity, bitXor_b2]
        exact fun H' r h4 hs => k H' r h4.nan hs
      | fin b d f =>
        have ry' : m = ⟨0, b2 b, d, f⟩ := ry
        subst ry'
        simp (decide := true) only [tSeq, tIfS, tTest, tOp, tUn, rI, rI0, rU, rEq, rNe, scal, tVar, tC, tRet, tAsg, gName, tCall, tCons, tNil, tNF, tNew, tIf, tB, tAnd, tOr, tNot, tAndV, tOrV, tNotV, tCB, tLst, tNext, tDrop, L2.start, Int.reduceToNat, List.map_cons, List.map_nil, List.length_cons, List.length_nil, List.replicate, Nat.reduceAdd, Nat.reduceSub, Nat.zero_add, Nat.add_zero, Nat.sub_self, List.replicate_zero, List.replicate_succ, List.cons_append, List.nil_append, List.append_nil, List.getElem?_cons_zero, List.getElem?_cons_succ, List.set_cons_zero, List.set_cons_succ, Option.some.injEq, exists_eq_left', exists_eq_left, exists_eq_right', V.int.injEq, V.ref.injEq, V.bl.injEq, V.str.injEq, List.cons.injEq, and_true, true_and, and_assoc, decide_eq_true_eq, Bool.not_eq_true', decide_eq_false_iff_not, ite_not, exists_and_left, ex_num hA, ex_num hB, if_true, if_false, sp_nan, sp_infinity, bitXor_b2]
        exact fun H' r h4 hs => k H' r h4.inf hs
    | fin a c e =>
      have rx' : n = ⟨0, b2 a, c, e⟩ := rx
      subst rx'
      cases y with
      | nan =>
        have ry' : m.k = 2 := ry
        simp (decide := true) only [tSeq, tIfS, tTest, tOp, tUn, rI, rI0, rU, rEq, rNe, scal, tVar, tC, tRet, tAsg, gName, tCall, tCons, tNil, tNF, tNew, tIf, tB, tAnd, tOr, tNot, tAndV, tOrV, tNotV, tCB, tLst, tNext, tDrop, L2.start, Int.reduceToNat, List.map_cons, List.map_nil, List.length_cons, List.length_nil, List.replicate, Nat.reduceAdd, Nat.reduceSub, Nat.zero_add, Nat.add_zero, Nat.sub_self, List.replicate_zero, List.replicate_succ, List.cons_append, List.nil_append, List.append_nil, List.getElem?_cons_zero, List.getElem?_cons_succ, List.set_cons_zero, List.set_cons_succ, Option.some.injEq, exists_eq_left', exists_eq_left, exists_eq_right', V.int.injEq, V.ref.injEq, V.bl.injEq, V.str.injEq, List.cons.injEq, and_true, true_and, and_assoc, decide_eq_true_eq, Bool.not_eq_true', decide_eq_false_iff_not, ite_not, exists_and_left, ex_num hA, ex_num hB, if_pos ry', if_true, if_false, sp_nan]
        exact fun H' r h4 hs => k H' r h4.nan hs
      | inf b =>
        have ry' : m = ⟨1, b2 b, 0, 0⟩ := ry
        subst ry'
        simp (decide := true) only [tSeq, tIfS, tTest, tOp, tUn, rI, rI0, rU, rEq, rNe, scal, tVar, tC, tRet, tAsg, gName, tCall, tCons, tNil, tNF, tNew, tIf, tB, tAnd, tOr, tNot, tAndV, tOrV, tNotV, tCB, tLst, tNext, tDrop, L2.start, Int.reduceToNat, List.map_cons, List.map_nil, List.length_cons, List.length_nil, List.replicate, Nat.reduceAdd, Nat.reduceSub, Nat.zero_add, Nat.add_zero, Nat.sub_self, List.replicate_zero, List.replicate_succ, List.cons_append, List.nil_append, List.append_nil, List.getElem?_cons_zero, List.getElem?_cons_succ, List.set_cons_zero, List.set_cons_succ, Option.some.injEq, exists_eq_left', exists_eq_left, exists_eq_right', V.int.injEq, V.ref.injEq, V.bl.injEq, V.str.injEq, List.cons.injEq, and_true, true_and, and_assoc, decide_eq_true_eq, Bool.not_eq_true', decide_eq_false_iff_not, ite_not, exists_and_left, ex_num hA, ex_num hB, if_true, if_false, sp_nan, sp_infinity, sp_finite, bitXor_b2]
        exact fun H' r h4 hs => k H' r (h4.eq rfl).fin hs
      | fin b d f =>
        have ry' : m = ⟨0, b2 b, d, f⟩ := ry
        subst ry'
        obtain ⟨f1, f2, f3⟩ := fx
        obtain ⟨f4, f5, f6⟩ := fy
        simp (decide := true) only [tSeq, tIfS, tTest, tOp, tUn, rI, rI0, rU, rEq, rNe, scal, tVar, tC, tRet, tAsg, gName, tCall, tCons, tNil, tNF, tNew, tIf, tB, tAnd, tOr, tNot, tAndV, tOrV, tNotV, tCB, tLst, tNext, tDrop, L2.start, Int.reduceToNat, List.map_cons, List.map_nil, List.length_cons, List.length_nil, List.replicate, Nat.reduceAdd, Nat.reduceSub, Nat.zero_add, Nat.add_zero, Nat.sub_self, List.replicate_zero, List.replicate_succ, List.cons_append, List.nil_append, List.append_nil, List.getElem?_cons_zero, List.getElem?_cons_succ, List.set_cons_zero, List.set_cons_succ, Option.some.injEq, exists_eq_left', exists_eq_left, exists_eq_right', V.int.injEq, V.ref.injEq, V.bl.injEq, V.str.injEq, List.cons.injEq, and_true, true_and, and_assoc, decide_eq_true_eq, Bool.not_eq_true', decide_eq_false_iff_not, ite_not, exists_and_left, ex_num hA, ex_num hB, if_true, if_false, sp_nan, sp_infinity, sp_is_zero, ex_z hx, ex_z hy, isZ, sp_with_rest_marked, sp_rounded, bitXor_b2, CPow]
        rw [over_fin] at k
        by_cases c1 : d = 0
        · rw [if_pos c1] at k ⊢
          by_cases c2 : c = 0
          · rw [if_pos c2] at k ⊢
            exact fun H' r h4 hs => k H' r h4.nan hs
          · rw [if_neg c2] at k ⊢
            exact fun H' r h4 hs => k H' r h4.inf hs
        · rw [if_neg c1] at k ⊢
          have f1' : c < 10 ^ 16 := f1
          rw [← over_marked (by omega) f4] at k
          refine ⟨.inl (.inl ⟨by omega, by omega⟩), ⟨by omega, .inr (wid_top f4)⟩, by omega, a != b, rfl, 10 * (c * 10 ^ 40 / d) + (if c * 10 ^ 40 % d > 0 then 1 else 0), quot_int c d, quot_lt f1, by omega, by omega, k⟩
/-! ### computed -/
abbrev s_computed : Stmt := top 34
theorem sc_computed : FnScope ["which", "a", "b"] ["which", "a", "b"] (defScope s_computed) := ⟨rfl, rfl, rfl, by decide +kernel, rfl, by decide +kernel, by decide +kernel⟩
def opZ (w : Int) (x y : Num) : Num := if w = 0 then add x y else if w = 1 then add x (turn y) else if w = 2 then mul x y else if w = 3 then over x y else .nan
def sp_computed (C : Addr) : Sp := fun vs H Q _ => ∃ (w : Int) (p q : Addr), vs = [.int w, .ref p, .ref q] ∧ ∃ x : Num, NumZ C H p x ∧ ∃ y : Num, NumZ C H q y ∧ Fits x ∧ Fits y ∧ ∀ (H' : Hp) (r : Addr), NumZ C H' r (opZ w x y) → Same H H' → Q (.ref r) H'
theorem ok_computed {f : Addr} {fd : FuncData} {C : Addr} (d_nan : Def P w K mg base "nan" 3 [] (sp_nan C)) (d_added : Def P w K mg base "added" 6 ["a", "b"] (sp_added C)) (d_multiplied : Def P w K mg base "multiplied" 6 ["a", "b"] (sp_multiplied C)) (d_divided : Def P w K mg base "divided" 6 ["a", "b"] (sp_divided C)) (d_with_sign_turned : Def P w K mg base "with_sign_turned" 3 ["a"] (sp_with_sign_turned C)) (F : Fun K "computed" "computed" s_computed f fd) : FnOk P w K mg base CX0 7 f fd ["which", "a", "b"] (sp_computed C) := by
  refine F.ok sc_computed (fun vs H Q E h => ?_) (fun cdv A outer s H vs Q E hr h => ?_)
  · obtain ⟨w, p, q, rfl, _⟩ := h
    rfl
  · obtain ⟨w, p, q, rfl, x, hx, y, hy, fx, fy, k⟩ := h
    refine ⟨_, (pss_cons (ps_if (pt_cmpR op_eq (pv 0) pe_int (nomark _)) (pss_one (ps_ret (pe_def d_added (hr.mono (by decide)) (pa_cons (pv 1) (pa_cons (pv 2) pa_nil))))) pss_nil) (pss_cons (ps_if (pt_cmpR op_eq (pv 0) pe_int (nomark _)) (pss_one (ps_ret (pe_def d_added (hr.mono (by decide)) (pa_cons (pv 1) (pa_cons (pe_def d_with_sign_turned (hr.mono (by decide)) (pa_cons (pv 2) pa_nil)) pa_nil))))) pss_nil) (pss_cons (ps_if (pt_cmpR op_eq (pv 0) pe_int (nomark _)) (pss_one (ps_ret (pe_def d_multiplied (hr.mono (by decide)) (pa_cons (pv 1) (pa_cons (pv 2) pa_nil))))) pss_nil) (pss_cons (ps_if (pt_cmpR op_eq (pv 0) pe_int (nomark _)) (pss_one (ps_ret (pe_def d_divided (hr.mono (by decide)) (pa_cons (pv 1) (pa_cons (pv 2) pa_nil))))) pss_nil) (pss_one (ps_ret (pe_def0 d_nan (hr.mono (by decide))))))))), ?_⟩
    simp (decide := true) only [tSeq, tIfS, tTest, tOp, tUn, rI, rI0, rU, rEq, rNe, scal, tVar, tC, tRet, tAsg, gName, tCall, tCons, tNil, tNF, tNew, tIf, tB, tAnd, tOr, tNot, tAndV, tOrV, tNotV, tCB, tLst, tNext, tDrop, L2.start, Int.reduceToNat, List.map_cons, List.map_nil, List.length_cons, List.length_nil, List.replicate, Nat.reduceAdd, Nat.reduceSub, Nat.zero_add, Nat.add_zero, Nat.sub_self, List.replicate_zero, List.replicate_succ, List.cons_append, List.nil_append, List.append_nil, List.getElem?_cons_zero, List.getElem?_cons_succ, List.set_cons_zero, List.set_cons_succ, Option.some.injEq, exists_eq_left', exists_eq_left, exists_eq_right', V.int.injEq, V.ref.injEq, V.bl.injEq, V.str.injEq, List.cons.injEq, and_true, true_and, and_assoc, decide_eq_true_eq, Bool.not_eq_true', decide_eq_false_iff_not, ite_not, exists_and_left, sp_added, sp_multiplied, sp_divided, sp_nan, sp_with_sign_turned, ex_z hx, ex_z hy]
    unfold opZ at k
    by_cases c0 : w = 0
    · rw [if_pos c0] at k ⊢
      exact ⟨fx, fy, k⟩
    · rw [if_neg c0] at k ⊢
      by_cases c1 : w = 1
      · rw [if_pos c1] at k ⊢
        intro H1 q1 hz s1
        exact ⟨x, hx.same s1, turn y, hz, fx, turn_fits fy, fun H' r h4 hs => k H' r h4 (s1.trans hs)⟩
      · rw [if_neg c1] at k ⊢
        by_cases c2 : w = 2
        · rw [if_pos c2] at k ⊢
          exact ⟨fx, fy, k⟩
        · rw [if_neg c2] at k ⊢
          by_cases c3 : w = 3
          · rw [if_pos c3] at k ⊢
            exact ⟨fx, fy, k⟩
          · rw [if_neg c3] at k ⊢
            exact fun H' r h4 hs => k H' r h4.nan hs
/-! ### op -/
abbrev s_op : Stmt := top 33
theorem sc_op : FnScope ["op", "a", "b"] ["op", "a", "b"] (defScope s_op) := ⟨rfl, rfl, rfl, by decide +kernel, rfl, by decide +kernel, by decide +kernel⟩
theorem opZ_fits {w : Int} {x y : Num} (hx : Fits x) (hy : Fits y) : Fits (opZ w x y) := by
  unfold opZ
  by_cases c0 : w = 0
  · rw [if_pos c0]; exact add_fits hx hy
  · rw [if_neg c0]
    by_cases c1 : w = 1
    · rw [if_pos c1]; exact add_fits hx (turn_fits hy)
    · rw [if_neg c1]
      by_cases c2 : w = 2
      · rw [if_pos c2]; exact mul_fits' hx hy
      · rw [if_neg c2]
        by_cases c3 : w = 3
        · rw [if_pos c3]; exact over_fits hx hy
        · rw [if_neg c3]; trivial
def sp_op : Sp := fun vs H Q _ => ∃ w a b : Int, vs = [.int w, .int a, .int b] ∧ 0 ≤ a ∧ a < 2 ^ 64 ∧ 0 ≤ b ∧ b < 2 ^ 64 ∧ ∀ (H' : Hp) (p : Addr), H' p = some (.lst [.int (encode (opZ w (decode a.toNat) (decode b.toNat)) : Nat)]) → Q (.ref p) H'
theorem ok_op {f : Addr} {fd : FuncData} {C : Addr} (d_bits_of : Def P w K mg base "bits_of" 1 ["number"] (sp_bits_of C)) (d_computed : Def P w K mg base "computed" 7 ["which", "a", "b"] (sp_computed C)) (d_number_of : Def P w K mg base "number_of" 4 ["bits"] (sp_number_of C)) (F : Fun K "op" "op" s_op f fd) : FnOk P w K mg base CX0 8 f fd ["op", "a", "b"] sp_op := by
  refine F.ok sc_op (fun vs H Q E h => ?_) (fun cdv A outer s H vs Q E hr h => ?_)
  · obtain ⟨w, a, b, rfl, _⟩ := h
    rfl
  · obtain ⟨w, a, b, rfl, h0, h1, h2, h3, k⟩ := h
    refine ⟨_, (pss_one (ps_ret (pe_lst (pa_cons (pe_def d_bits_of (hr.mono (by decide)) (pa_cons (pe_def d_computed (hr.mono (by decide)) (pa_cons (pv 0) (pa_cons (pe_def d_number_of (hr.mono (by decide)) (pa_cons (pv 1) pa_nil)) (pa_cons (pe_def d_number_of (hr.mono (by decide)) (pa_cons (pv 2) pa_nil)) pa_nil)))) pa_nil)) pa_nil)))), ?_⟩
    simp (decide := true) only [tSeq, tIfS, tTest, tOp, tUn, rI, rI0, rU, rEq, rNe, scal, tVar, tC, tRet, tAsg, gName, tCall, tCons, tNil, tNF, tNew, tIf, tB, tAnd, tOr, tNot, tAndV, tOrV, tNotV, tCB, tLst, tNext, tDrop, L2.start, Int.reduceToNat, List.map_cons, List.map_nil, List.length_cons, List.length_nil, List.replicate, Nat.reduceAdd, Nat.reduceSub, Nat.zero_add, Nat.add_zero, Nat.sub_self, List.replicate_zero, List.replicate_succ, List.cons_append, List.nil_append, List.append_nil, List.getElem?_cons_zero, List.getElem?_cons_succ, List.set_cons_zero, List.set_cons_succ, Option.some.injEq, exists_eq_left', exists_eq_left, exists_eq_right', V.int.injEq, V.ref.injEq, V.bl.injEq, V.str.injEq, List.cons.injEq, and_true, true_and, and_assoc, decide_eq_true_eq, Bool.not_eq_true', decide_eq_false_iff_not, ite_not, exists_and_left, sp_number_of, sp_computed, sp_bits_of]
    have fa := decode_fits (b := a.toNat) (by omega)
    have fb := decode_fits (b := b.toNat) (by omega)
    refine ⟨h0, h1, fun H1 p hp s1 => ⟨h2, h3, fun H2 q hq s2 => ⟨_, hp.same s2, _, hq, fa, fb, fun H3 r hr s3 => ⟨_, hr, opZ_fits fa fb, ?_⟩⟩⟩⟩
    exact fun q hq => k _ q upd_same
theorem op_is (w a b : Int) : PyKg10.op w a b = [(encode (opZ w (decode a.toNat) (decode b.toNat)) : Int)] := by
  show (answered (.op w a.toNat b.toNat)).value :: (answered (.op w a.toNat b.toNat)).out = _
  unfold answered opZ
  dsimp only
  split
  · rfl
  · split
    · rfl
    · split
      · rfl
      · split <;> rfl
end
theorem all_mk {P : Program} {w : World} {K : PySem.W.Frag} {h : Heap} {mg : Str → Option Value} {fa : Addr} (X : K.In h) (G : h.Ns mainGlobals mg) (hfa : mg "op" = some (.ref fa))
    {C f0 : Addr}
    {od0 an0 : Option Addr} {sl0 : Array (Option Value)} {oc0 kV0 dc0 pm0 cd0 ct0 : Value}
    {t_DIGITS : Tok}
    {t_FINITE : Tok}
    {t_HIGHEST_EXPONENT : Tok}
    {t_INFINITE : Tok}
    {t_LARGEST_COEFFICIENT : Tok}
    {t_LOWEST_EXPONENT : Tok}
    {t_NAN : Tok}
    {f1 : Addr} {od1 an1 : Option Addr} {sl1 : Array (Option Value)} {oc1 kV1 dc1 pm1 cd1 ct1 : Value}
    {f2 : Addr} {od2 an2 : Option Addr} {sl2 : Array (Option Value)} {oc2 kV2 dc2 pm2 cd2 ct2 : Value}
    {f3 : Addr} {od3 an3 : Option Addr} {sl3 : Array (Option Value)} {oc3 kV3 dc3 pm3 cd3 ct3 : Value}
    {f4 : Addr} {od4 an4 : Option Addr} {sl4 : Array (Option Value)} {oc4 kV4 dc4 pm4 cd4 ct4 : Value}
    {f5 : Addr} {od5 an5 : Option Addr} {sl5 : Array (Option Value)} {oc5 kV5 dc5 pm5 cd5 ct5 : Value}
    {f6 : Addr} {od6 an6 : Option Addr} {sl6 : Array (Option Value)} {oc6 kV6 dc6 pm6 cd6 ct6 : Value}
    {f7 : Addr} {od7 an7 : Option Addr} {sl7 : Array (Option Value)} {oc7 kV7 dc7 pm7 cd7 ct7 : Value}
    {f8 : Addr} {od8 an8 : Option Addr} {sl8 : Array (Option Value)} {oc8 kV8 dc8 pm8 cd8 ct8 : Value}
    {f9 : Addr} {od9 an9 : Option Addr} {sl9 : Array (Option Value)} {oc9 kV9 dc9 pm9 cd9 ct9 : Value}
    {f10 : Addr} {od10 an10 : Option Addr} {sl10 : Array (Option Value)} {oc10 kV10 dc10 pm10 cd10 ct10 : Value}
    {f11 : Addr} {od11 an11 : Option Addr} {sl11 : Array (Option Value)} {oc11 kV11 dc11 pm11 cd11 ct11 : Value}
    {f12 : Addr} {od12 an12 : Option Addr} {sl12 : Array (Option Value)} {oc12 kV12 dc12 pm12 cd12 ct12 : Value}
    {f13 : Addr} {od13 an13 : Option Addr} {sl13 : Array (Option Value)} {oc13 kV13 dc13 pm13 cd13 ct13 : Value}
    {f14 : Addr} {od14 an14 : Option Addr} {sl14 : Array (Option Value)} {oc14 kV14 dc14 pm14 cd14 ct14 : Value}
    {f15 : Addr} {od15 an15 : Option Addr} {sl15 : Array (Option Value)} {oc15 kV15 dc15 pm15 cd15 ct15 : Value}
    {f16 : Addr} {od16 an16 : Option Addr} {sl16 : Array (Option Value)} {oc16 kV16 dc16 pm16 cd16 ct16 : Value}
    {f17 : Addr} {od17 an17 : Option Addr} {sl17 : Array (Option Value)} {oc17 kV17 dc17 pm17 cd17 ct17 : Value}
    {f18 : Addr} {od18 an18 : Option Addr} {sl18 : Array (Option Value)} {oc18 kV18 dc18 pm18 cd18 ct18 : Value}
    {f19 : Addr} {od19 an19 : Option Addr} {sl19 : Array (Option Value)} {oc19 kV19 dc19 pm19 cd19 ct19 : Value}
    {f20 : Addr} {od20 an20 : Option Addr} {sl20 : Array (Option Value)} {oc20 kV20 dc20 pm20 cd20 ct20 : Value}
    {f21 : Addr} {od21 an21 : Option Addr} {sl21 : Array (Option Value)} {oc21 kV21 dc21 pm21 cd21 ct21 : Value}
    {f22 : Addr} {od22 an22 : Option Addr} {sl22 : Array (Option Value)} {oc22 kV22 dc22 pm22 cd22 ct22 : Value}
    {f23 : Addr} {od23 an23 : Option Addr} {sl23 : Array (Option Value)} {oc23 kV23 dc23 pm23 cd23 ct23 : Value}
    (aC : PySem.W.nsIn K mainGlobals "Number" = some (some (.ref C)))
    (a0 : PySem.W.findIn K (.ref C) "__init__" = some (some (.ref f0)))
    (i0 : PySem.W.isFn K (.ref f0) = true)
    (l0 : K.lookup f0 = some ⟨oc0, od0, .func (PySem.W.fnOf "__init__" "Number.__init__" (defArgs s_init) (defBody s_init) (defScope s_init) .none kV0 dc0 pm0 an0 cd0 ct0), sl0⟩)
    (c0 : PySem.W.codeIn K cd0 "Number.__init__" = true)
    (k0 : PySem.W.keepIn K (.ref f0) = true)
    (pg : PySem.W.plainGet K C Str.empty = true)
    (hd : PySem.W.hasDictIn K C = true)
    (po : PySem.W.plainOver K C = true)
    (sa : PySem.W.findIn K (.ref C) "__setattr__" = some (some (.builtin "object.__setattr__")))
    (mk : PySem.W.makesIn K C = true)
    (kc : PySem.W.keepIn K (.ref C) = true)
    (nk : PySem.W.findIn K (.ref C) "kind" = some none)
    (nm : PySem.W.findIn K (.ref C) "minus" = some none)
    (nc : PySem.W.findIn K (.ref C) "coefficient" = some none)
    (ne : PySem.W.findIn K (.ref C) "exponent" = some none)
    (v_DIGITS : PySem.W.nsIn K mainGlobals "DIGITS" = some (some (Value.int (16) t_DIGITS)))
    (v_FINITE : PySem.W.nsIn K mainGlobals "FINITE" = some (some (Value.int (0) t_FINITE)))
    (v_HIGHEST_EXPONENT : PySem.W.nsIn K mainGlobals "HIGHEST_EXPONENT" = some (some (Value.int (369) t_HIGHEST_EXPONENT)))
    (v_INFINITE : PySem.W.nsIn K mainGlobals "INFINITE" = some (some (Value.int (1) t_INFINITE)))
    (v_LARGEST_COEFFICIENT : PySem.W.nsIn K mainGlobals "LARGEST_COEFFICIENT" = some (some (Value.int (9999999999999999) t_LARGEST_COEFFICIENT)))
    (v_LOWEST_EXPONENT : PySem.W.nsIn K mainGlobals "LOWEST_EXPONENT" = some (some (Value.int (-398) t_LOWEST_EXPONENT)))
    (v_NAN : PySem.W.nsIn K mainGlobals "NAN" = some (some (Value.int (2) t_NAN)))
    (n_abs : PySem.W.nsIn K mainGlobals "abs" = some none)
    (n_len : PySem.W.nsIn K mainGlobals "len" = some none)
    (n_max : PySem.W.nsIn K mainGlobals "max" = some none)
    (n_min : PySem.W.nsIn K mainGlobals "min" = some none)
    (n_range : PySem.W.nsIn K mainGlobals "range" = some none)
    (n_str : PySem.W.nsIn K mainGlobals "str" = some none)
    (nd : PySem.W.nsIn K cStatics "sys.int_max_str_digits" = some none)
    (a1 : PySem.W.nsIn K mainGlobals "finite" = some (some (.ref f1)))
    (l1 : K.lookup f1 = some ⟨oc1, od1, .func (PySem.W.fnOf "finite" "finite" (defArgs s_finite) (defBody s_finite) (defScope s_finite) .none kV1 dc1 pm1 an1 cd1 ct1), sl1⟩)
    (c1 : PySem.W.codeIn K cd1 "finite" = true)
    (k1 : PySem.W.keepIn K (.ref f1) = true)
    (a2 : PySem.W.nsIn K mainGlobals "infinity" = some (some (.ref f2)))
    (l2 : K.lookup f2 = some ⟨oc2, od2, .func (PySem.W.fnOf "infinity" "infinity" (defArgs s_infinity) (defBody s_infinity) (defScope s_infinity) .none kV2 dc2 pm2 an2 cd2 ct2), sl2⟩)
    (c2 : PySem.W.codeIn K cd2 "infinity" = true)
    (k2 : PySem.W.keepIn K (.ref f2) = true)
    (a3 : PySem.W.nsIn K mainGlobals "nan" = some (some (.ref f3)))
    (l3 : K.lookup f3 = some ⟨oc3, od3, .func (PySem.W.fnOf "nan" "nan" (defArgs s_nan) (defBody s_nan) (defScope s_nan) .none kV3 dc3 pm3 an3 cd3 ct3), sl3⟩)
    (c3 : PySem.W.codeIn K cd3 "nan" = true)
    (k3 : PySem.W.keepIn K (.ref f3) = true)
    (a4 : PySem.W.nsIn K mainGlobals "is_zero" = some (some (.ref f4)))
    (l4 : K.lookup f4 = some ⟨oc4, od4, .func (PySem.W.fnOf "is_zero" "is_zero" (defArgs s_is_zero) (defBody s_is_zero) (defScope s_is_zero) .none kV4 dc4 pm4 an4 cd4 ct4), sl4⟩)
    (c4 : PySem.W.codeIn K cd4 "is_zero" = true)
    (k4 : PySem.W.keepIn K (.ref f4) = true)
    (a5 : PySem.W.nsIn K mainGlobals "exponent_of" = some (some (.ref f5)))
    (l5 : K.lookup f5 = some ⟨oc5, od5, .func (PySem.W.fnOf "exponent_of" "exponent_of" (defArgs s_exponent_of) (defBody s_exponent_of) (defScope s_exponent_of) .none kV5 dc5 pm5 an5 cd5 ct5), sl5⟩)
    (c5 : PySem.W.codeIn K cd5 "exponent_of" = true)
    (k5 : PySem.W.keepIn K (.ref f5) = true)
    (a6 : PySem.W.nsIn K mainGlobals "number_of" = some (some (.ref f6)))
    (l6 : K.lookup f6 = some ⟨oc6, od6, .func (PySem.W.fnOf "number_of" "number_of" (defArgs s_number_of) (defBody s_number_of) (defScope s_number_of) .none kV6 dc6 pm6 an6 cd6 ct6), sl6⟩)
    (c6 : PySem.W.codeIn K cd6 "number_of" = true)
    (k6 : PySem.W.keepIn K (.ref f6) = true)
    (a7 : PySem.W.nsIn K mainGlobals "bits_of" = some (some (.ref f7)))
    (l7 : K.lookup f7 = some ⟨oc7, od7, .func (PySem.W.fnOf "bits_of" "bits_of" (defArgs s_bits_of) (defBody s_bits_of) (defScope s_bits_of) .none kV7 dc7 pm7 an7 cd7 ct7), sl7⟩)
    (c7 : PySem.W.codeIn K cd7 "bits_of" = true)
    (k7 : PySem.W.keepIn K (.ref f7) = true)
    (a8 : PySem.W.nsIn K mainGlobals "ten_to" = some (some (.ref f8)))
    (l8 : K.lookup f8 = some ⟨oc8, od8, .func (PySem.W.fnOf "ten_to" "ten_to" (defArgs s_ten_to) (defBody s_ten_to) (defScope s_ten_to) .none kV8 dc8 pm8 an8 cd8 ct8), sl8⟩)
    (c8 : PySem.W.codeIn K cd8 "ten_to" = true)
    (k8 : PySem.W.keepIn K (.ref f8) = true)
    (a9 : PySem.W.nsIn K mainGlobals "digit_count" = some (some (.ref f9)))
    (l9 : K.lookup f9 = some ⟨oc9, od9, .func (PySem.W.fnOf "digit_count" "digit_count" (defArgs s_digit_count) (defBody s_digit_count) (defScope s_digit_count) .none kV9 dc9 pm9 an9 cd9 ct9), sl9⟩)
    (c9 : PySem.W.codeIn K cd9 "digit_count" = true)
    (k9 : PySem.W.keepIn K (.ref f9) = true)
    (a10 : PySem.W.nsIn K mainGlobals "between" = some (some (.ref f10)))
    (l10 : K.lookup f10 = some ⟨oc10, od10, .func (PySem.W.fnOf "between" "between" (defArgs s_between) (defBody s_between) (defScope s_between) .none kV10 dc10 pm10 an10 cd10 ct10), sl10⟩)
    (c10 : PySem.W.codeIn K cd10 "between" = true)
    (k10 : PySem.W.keepIn K (.ref f10) = true)
    (a11 : PySem.W.nsIn K mainGlobals "nearest_whole" = some (some (.ref f11)))
    (l11 : K.lookup f11 = some ⟨oc11, od11, .func (PySem.W.fnOf "nearest_whole" "nearest_whole" (defArgs s_nearest_whole) (defBody s_nearest_whole) (defScope s_nearest_whole) .none kV11 dc11 pm11 an11 cd11 ct11), sl11⟩)
    (c11 : PySem.W.codeIn K cd11 "nearest_whole" = true)
    (k11 : PySem.W.keepIn K (.ref f11) = true)
    (a12 : PySem.W.nsIn K mainGlobals "without_digits" = some (some (.ref f12)))
    (l12 : K.lookup f12 = some ⟨oc12, od12, .func (PySem.W.fnOf "without_digits" "without_digits" (defArgs s_without_digits) (defBody s_without_digits) (defScope s_without_digits) .none kV12 dc12 pm12 an12 cd12 ct12), sl12⟩)
    (c12 : PySem.W.codeIn K cd12 "without_digits" = true)
    (k12 : PySem.W.keepIn K (.ref f12) = true)
    (a13 : PySem.W.nsIn K mainGlobals "nearest" = some (some (.ref f13)))
    (l13 : K.lookup f13 = some ⟨oc13, od13, .func (PySem.W.fnOf "nearest" "nearest" (defArgs s_nearest) (defBody s_nearest) (defScope s_nearest) .none kV13 dc13 pm13 an13 cd13 ct13), sl13⟩)
    (c13 : PySem.W.codeIn K cd13 "nearest" = true)
    (k13 : PySem.W.keepIn K (.ref f13) = true)
    (a14 : PySem.W.nsIn K mainGlobals "rounded" = some (some (.ref f14)))
    (l14 : K.lookup f14 = some ⟨oc14, od14, .func (PySem.W.fnOf "rounded" "rounded" (defArgs s_rounded) (defBody s_rounded) (defScope s_rounded) .none kV14 dc14 pm14 an14 cd14 ct14), sl14⟩)
    (c14 : PySem.W.codeIn K cd14 "rounded" = true)
    (k14 : PySem.W.keepIn K (.ref f14) = true)
    (a15 : PySem.W.nsIn K mainGlobals "with_sign_turned" = some (some (.ref f15)))
    (l15 : K.lookup f15 = some ⟨oc15, od15, .func (PySem.W.fnOf "with_sign_turned" "with_sign_turned" (defArgs s_with_sign_turned) (defBody s_with_sign_turned) (defScope s_with_sign_turned) .none kV15 dc15 pm15 an15 cd15 ct15), sl15⟩)
    (c15 : PySem.W.codeIn K cd15 "with_sign_turned" = true)
    (k15 : PySem.W.keepIn K (.ref f15) = true)
    (a16 : PySem.W.nsIn K mainGlobals "added_with_infinity" = some (some (.ref f16)))
    (l16 : K.lookup f16 = some ⟨oc16, od16, .func (PySem.W.fnOf "added_with_infinity" "added_with_infinity" (defArgs s_added_with_infinity) (defBody s_added_with_infinity) (defScope s_added_with_infinity) .none kV16 dc16 pm16 an16 cd16 ct16), sl16⟩)
    (c16 : PySem.W.codeIn K cd16 "added_with_infinity" = true)
    (k16 : PySem.W.keepIn K (.ref f16) = true)
    (a17 : PySem.W.nsIn K mainGlobals "signed_coefficient" = some (some (.ref f17)))
    (l17 : K.lookup f17 = some ⟨oc17, od17, .func (PySem.W.fnOf "signed_coefficient" "signed_coefficient" (defArgs s_signed_coefficient) (defBody s_signed_coefficient) (defScope s_signed_coefficient) .none kV17 dc17 pm17 an17 cd17 ct17), sl17⟩)
    (c17 : PySem.W.codeIn K cd17 "signed_coefficient" = true)
    (k17 : PySem.W.keepIn K (.ref f17) = true)
    (a18 : PySem.W.nsIn K mainGlobals "added" = some (some (.ref f18)))
    (l18 : K.lookup f18 = some ⟨oc18, od18, .func (PySem.W.fnOf "added" "added" (defArgs s_added) (defBody s_added) (defScope s_added) .none kV18 dc18 pm18 an18 cd18 ct18), sl18⟩)
    (c18 : PySem.W.codeIn K cd18 "added" = true)
    (k18 : PySem.W.keepIn K (.ref f18) = true)
    (a19 : PySem.W.nsIn K mainGlobals "multiplied" = some (some (.ref f19)))
    (l19 : K.lookup f19 = some ⟨oc19, od19, .func (PySem.W.fnOf "multiplied" "multiplied" (defArgs s_multiplied) (defBody s_multiplied) (defScope s_multiplied) .none kV19 dc19 pm19 an19 cd19 ct19), sl19⟩)
    (c19 : PySem.W.codeIn K cd19 "multiplied" = true)
    (k19 : PySem.W.keepIn K (.ref f19) = true)
    (a20 : PySem.W.nsIn K mainGlobals "with_rest_marked" = some (some (.ref f20)))
    (l20 : K.lookup f20 = some ⟨oc20, od20, .func (PySem.W.fnOf "with_rest_marked" "with_rest_marked" (defArgs s_with_rest_marked) (defBody s_with_rest_marked) (defScope s_with_rest_marked) .none kV20 dc20 pm20 an20 cd20 ct20), sl20⟩)
    (c20 : PySem.W.codeIn K cd20 "with_rest_marked" = true)
    (k20 : PySem.W.keepIn K (.ref f20) = true)
    (a21 : PySem.W.nsIn K mainGlobals "divided" = some (some (.ref f21)))
    (l21 : K.lookup f21 = some ⟨oc21, od21, .func (PySem.W.fnOf "divided" "divided" (defArgs s_divided) (defBody s_divided) (defScope s_divided) .none kV21 dc21 pm21 an21 cd21 ct21), sl21⟩)
    (c21 : PySem.W.codeIn K cd21 "divided" = true)
    (k21 : PySem.W.keepIn K (.ref f21) = true)
    (a22 : PySem.W.nsIn K mainGlobals "computed" = some (some (.ref f22)))
    (l22 : K.lookup f22 = some ⟨oc22, od22, .func (PySem.W.fnOf "computed" "computed" (defArgs s_computed) (defBody s_computed) (defScope s_computed) .none kV22 dc22 pm22 an22 cd22 ct22), sl22⟩)
    (c22 : PySem.W.codeIn K cd22 "computed" = true)
    (k22 : PySem.W.keepIn K (.ref f22) = true)
    (a23 : PySem.W.nsIn K mainGlobals "op" = some (some (.ref f23)))
    (l23 : K.lookup f23 = some ⟨oc23, od23, .func (PySem.W.fnOf "op" "op" (defArgs s_op) (defBody s_op) (defScope s_op) .none kV23 dc23 pm23 an23 cd23 ct23), sl23⟩)
    (c23 : PySem.W.codeIn K cd23 "op" = true)
    (k23 : PySem.W.keepIn K (.ref f23) = true)
    : ∃ fd : FuncData, (∀ (s : Shared) (us : List Value), us.length = (["op", "a", "b"] : List Str).length → BindsTo s fd ⟨us, []⟩ ((["op", "a", "b"] : List Str).zip us)) ∧ ∀ base : Heap, K.In base → base.Ns mainGlobals mg → FnOk P w K mg base CX0 8 fa fd ["op", "a", "b"] sp_op := by
  have e := hfa.symm.trans (PySem.W.mg_of X G a23)
  cases e
  have g_DIGITS : GI mg "DIGITS" (16) := ⟨_, PySem.W.mg_of X G v_DIGITS⟩
  have g_FINITE : GI mg "FINITE" (0) := ⟨_, PySem.W.mg_of X G v_FINITE⟩
  have g_HIGHEST_EXPONENT : GI mg "HIGHEST_EXPONENT" (369) := ⟨_, PySem.W.mg_of X G v_HIGHEST_EXPONENT⟩
  have g_INFINITE : GI mg "INFINITE" (1) := ⟨_, PySem.W.mg_of X G v_INFINITE⟩
  have g_LARGEST_COEFFICIENT : GI mg "LARGEST_COEFFICIENT" (9999999999999999) := ⟨_, PySem.W.mg_of X G v_LARGEST_COEFFICIENT⟩
  have g_LOWEST_EXPONENT : GI mg "LOWEST_EXPONENT" (-398) := ⟨_, PySem.W.mg_of X G v_LOWEST_EXPONENT⟩
  have g_NAN : GI mg "NAN" (2) := ⟨_, PySem.W.mg_of X G v_NAN⟩
  have b_abs : mg "abs" = none := PySem.W.mg_none_of X G n_abs
  have b_len : mg "len" = none := PySem.W.mg_none_of X G n_len
  have b_max : mg "max" = none := PySem.W.mg_none_of X G n_max
  have b_min : mg "min" = none := PySem.W.mg_none_of X G n_min
  have b_range : mg "range" = none := PySem.W.mg_none_of X G n_range
  have b_str : mg "str" = none := PySem.W.mg_none_of X G n_str
  have F23 := fun_mk (st := s_op) l23 c23 k23
  refine ⟨PySem.W.fnOf "op" "op" (defArgs s_op) (defBody s_op) (defScope s_op) .none kV23 dc23 pm23 an23 cd23 ct23, fun s us hu => match us, hu with | [_, _, _], _ => .of_eq rfl, fun base _ _ => ?_⟩
  have T : NumC K C := ⟨⟨pg, hd, po, sa⟩, nk, nm, nc, ne⟩
  have F0 := fun_mk (st := s_init) l0 c0 k0
  have D : NumDef P w K mg base C := ⟨T, PySem.W.mg_of X G aC, f0, _, ⟨mk, a0, i0, kc⟩, F0.binds (ps := psInit) (fun _ _ _ _ _ _ us hl => match us, hl with | [_, _, _, _, _], _ => rfl), ok_init F0 T⟩
  have d_finite : Def P w K mg base "finite" 3 ["minus", "coefficient", "exponent"] (sp_finite C) := ⟨f1, _, PySem.W.mg_of X G a1, k1, (fun_mk (st := s_finite) l1 c1 k1).binds (ps := ["minus", "coefficient", "exponent"]) (fun _ _ _ _ _ _ us hl => match us, hl with | [_, _, _], _ => rfl), ok_finite D g_FINITE (fun_mk (st := s_finite) l1 c1 k1)⟩
  have d_infinity : Def P w K mg base "infinity" 3 ["minus"] (sp_infinity C) := ⟨f2, _, PySem.W.mg_of X G a2, k2, (fun_mk (st := s_infinity) l2 c2 k2).binds (ps := ["minus"]) (fun _ _ _ _ _ _ us hl => match us, hl with | [_], _ => rfl), ok_infinity D g_INFINITE (fun_mk (st := s_infinity) l2 c2 k2)⟩
  have d_nan : Def P w K mg base "nan" 3 [] (sp_nan C) := ⟨f3, _, PySem.W.mg_of X G a3, k3, (fun_mk (st := s_nan) l3 c3 k3).binds (ps := []) (fun _ _ _ _ _ _ us hl => match us, hl with | [], _ => rfl), ok_nan D g_NAN (fun_mk (st := s_nan) l3 c3 k3)⟩
  have d_is_zero : Def P w K mg base "is_zero" 1 ["number"] (sp_is_zero C) := ⟨f4, _, PySem.W.mg_of X G a4, k4, (fun_mk (st := s_is_zero) l4 c4 k4).binds (ps := ["number"]) (fun _ _ _ _ _ _ us hl => match us, hl with | [_], _ => rfl), ok_is_zero T g_FINITE (fun_mk (st := s_is_zero) l4 c4 k4)⟩
  have d_exponent_of : Def P w K mg base "exponent_of" 1 ["field"] sp_exponent_of := ⟨f5, _, PySem.W.mg_of X G a5, k5, (fun_mk (st := s_exponent_of) l5 c5 k5).binds (ps := ["field"]) (fun _ _ _ _ _ _ us hl => match us, hl with | [_], _ => rfl), ok_exponent_of g_LOWEST_EXPONENT (fun_mk (st := s_exponent_of) l5 c5 k5)⟩
  have d_number_of : Def P w K mg base "number_of" 4 ["bits"] (sp_number_of C) := ⟨f6, _, PySem.W.mg_of X G a6, k6, (fun_mk (st := s_number_of) l6 c6 k6).binds (ps := ["bits"]) (fun _ _ _ _ _ _ us hl => match us, hl with | [_], _ => rfl), ok_number_of g_LARGEST_COEFFICIENT d_infinity d_finite d_nan d_exponent_of (fun_mk (st := s_number_of) l6 c6 k6)⟩
  have d_bits_of : Def P w K mg base "bits_of" 1 ["number"] (sp_bits_of C) := ⟨f7, _, PySem.W.mg_of X G a7, k7, (fun_mk (st := s_bits_of) l7 c7 k7).binds (ps := ["number"]) (fun _ _ _ _ _ _ us hl => match us, hl with | [_], _ => rfl), ok_bits_of T g_NAN g_INFINITE g_LOWEST_EXPONENT (fun_mk (st := s_bits_of) l7 c7 k7)⟩
  have d_ten_to : Def P w K mg base "ten_to" 1 ["n"] sp_ten_to := ⟨f8, _, PySem.W.mg_of X G a8, k8, (fun_mk (st := s_ten_to) l8 c8 k8).binds (ps := ["n"]) (fun _ _ _ _ _ _ us hl => match us, hl with | [_], _ => rfl), ok_ten_to b_range (fun_mk (st := s_ten_to) l8 c8 k8)⟩
  have d_digit_count : Def P w K mg base "digit_count" 1 ["n"] sp_digit_count := ⟨f9, _, PySem.W.mg_of X G a9, k9, (fun_mk (st := s_digit_count) l9 c9 k9).binds (ps := ["n"]) (fun _ _ _ _ _ _ us hl => match us, hl with | [_], _ => rfl), ok_digit_count b_len b_str nd (fun_mk (st := s_digit_count) l9 c9 k9)⟩
  have d_between : Def P w K mg base "between" 1 ["low", "n", "high"] sp_between := ⟨f10, _, PySem.W.mg_of X G a10, k10, (fun_mk (st := s_between) l10 c10 k10).binds (ps := ["low", "n", "high"]) (fun _ _ _ _ _ _ us hl => match us, hl with | [_, _, _], _ => rfl), ok_between b_max b_min (fun_mk (st := s_between) l10 c10 k10)⟩
  have d_nearest_whole : Def P w K mg base "nearest_whole" 1 ["numerator", "denominator"] sp_nearest_whole := ⟨f11, _, PySem.W.mg_of X G a11, k11, (fun_mk (st := s_nearest_whole) l11 c11 k11).binds (ps := ["numerator", "denominator"]) (fun _ _ _ _ _ _ us hl => match us, hl with | [_, _], _ => rfl), ok_nearest_whole  (fun_mk (st := s_nearest_whole) l11 c11 k11)⟩
  have d_without_digits : Def P w K mg base "without_digits" 2 ["coefficient", "drop"] sp_without_digits := ⟨f12, _, PySem.W.mg_of X G a12, k12, (fun_mk (st := s_without_digits) l12 c12 k12).binds (ps := ["coefficient", "drop"]) (fun _ _ _ _ _ _ us hl => match us, hl with | [_, _], _ => rfl), ok_without_digits d_nearest_whole d_digit_count d_ten_to (fun_mk (st := s_without_digits) l12 c12 k12)⟩
  have d_nearest : Def P w K mg base "nearest" 4 ["minus", "coefficient", "exponent"] (sp_nearest C) := ⟨f13, _, PySem.W.mg_of X G a13, k13, (fun_mk (st := s_nearest) l13 c13 k13).binds (ps := ["minus", "coefficient", "exponent"]) (fun _ _ _ _ _ _ us hl => match us, hl with | [_, _, _], _ => rfl), ok_nearest g_HIGHEST_EXPONENT g_DIGITS g_LOWEST_EXPONENT b_max d_without_digits d_finite d_infinity d_digit_count (fun_mk (st := s_nearest) l13 c13 k13)⟩
  have d_rounded : Def P w K mg base "rounded" 5 ["minus", "coefficient", "exponent", "wanted"] (sp_rounded C) := ⟨f14, _, PySem.W.mg_of X G a14, k14, (fun_mk (st := s_rounded) l14 c14 k14).binds (ps := ["minus", "coefficient", "exponent", "wanted"]) (fun _ _ _ _ _ _ us hl => match us, hl with | [_, _, _, _], _ => rfl), ok_rounded g_LOWEST_EXPONENT g_HIGHEST_EXPONENT g_DIGITS b_max b_min d_between d_finite d_nearest d_ten_to d_digit_count (fun_mk (st := s_rounded) l14 c14 k14)⟩
  have d_with_sign_turned : Def P w K mg base "with_sign_turned" 3 ["a"] (sp_with_sign_turned C) := ⟨f15, _, PySem.W.mg_of X G a15, k15, (fun_mk (st := s_with_sign_turned) l15 c15 k15).binds (ps := ["a"]) (fun _ _ _ _ _ _ us hl => match us, hl with | [_], _ => rfl), ok_with_sign_turned T D (fun_mk (st := s_with_sign_turned) l15 c15 k15)⟩
  have d_added_with_infinity : Def P w K mg base "added_with_infinity" 4 ["a", "b"] (sp_added_with_infinity C) := ⟨f16, _, PySem.W.mg_of X G a16, k16, (fun_mk (st := s_added_with_infinity) l16 c16 k16).binds (ps := ["a", "b"]) (fun _ _ _ _ _ _ us hl => match us, hl with | [_, _], _ => rfl), ok_added_with_infinity T g_FINITE g_INFINITE d_infinity d_nan (fun_mk (st := s_added_with_infinity) l16 c16 k16)⟩
  have d_signed_coefficient : Def P w K mg base "signed_coefficient" 2 ["a", "exponent"] (sp_signed_coefficient C) := ⟨f17, _, PySem.W.mg_of X G a17, k17, (fun_mk (st := s_signed_coefficient) l17 c17 k17).binds (ps := ["a", "exponent"]) (fun _ _ _ _ _ _ us hl => match us, hl with | [_, _], _ => rfl), ok_signed_coefficient T d_ten_to (fun_mk (st := s_signed_coefficient) l17 c17 k17)⟩
  have d_added : Def P w K mg base "added" 6 ["a", "b"] (sp_added C) := ⟨f18, _, PySem.W.mg_of X G a18, k18, (fun_mk (st := s_added) l18 c18 k18).binds (ps := ["a", "b"]) (fun _ _ _ _ _ _ us hl => match us, hl with | [_, _], _ => rfl), ok_added T g_NAN g_INFINITE b_min b_abs d_rounded d_nan d_added_with_infinity d_signed_coefficient (fun_mk (st := s_added) l18 c18 k18)⟩
  have d_multiplied : Def P w K mg base "multiplied" 6 ["a", "b"] (sp_multiplied C) := ⟨f19, _, PySem.W.mg_of X G a19, k19, (fun_mk (st := s_multiplied) l19 c19 k19).binds (ps := ["a", "b"]) (fun _ _ _ _ _ _ us hl => match us, hl with | [_, _], _ => rfl), ok_multiplied T g_NAN g_INFINITE d_rounded d_nan d_infinity d_is_zero (fun_mk (st := s_multiplied) l19 c19 k19)⟩
  have d_with_rest_marked : Def P w K mg base "with_rest_marked" 1 ["digits", "rest"] sp_with_rest_marked := ⟨f20, _, PySem.W.mg_of X G a20, k20, (fun_mk (st := s_with_rest_marked) l20 c20 k20).binds (ps := ["digits", "rest"]) (fun _ _ _ _ _ _ us hl => match us, hl with | [_, _], _ => rfl), ok_with_rest_marked  (fun_mk (st := s_with_rest_marked) l20 c20 k20)⟩
  have d_divided : Def P w K mg base "divided" 6 ["a", "b"] (sp_divided C) := ⟨f21, _, PySem.W.mg_of X G a21, k21, (fun_mk (st := s_divided) l21 c21 k21).binds (ps := ["a", "b"]) (fun _ _ _ _ _ _ us hl => match us, hl with | [_, _], _ => rfl), ok_divided T g_INFINITE g_NAN d_is_zero d_with_rest_marked d_rounded d_nan d_finite d_infinity (fun_mk (st := s_divided) l21 c21 k21)⟩
  have d_computed : Def P w K mg base "computed" 7 ["which", "a", "b"] (sp_computed C) := ⟨f22, _, PySem.W.mg_of X G a22, k22, (fun_mk (st := s_computed) l22 c22 k22).binds (ps := ["which", "a", "b"]) (fun _ _ _ _ _ _ us hl => match us, hl with | [_, _, _], _ => rfl), ok_computed d_nan d_added d_multiplied d_divided d_with_sign_turned (fun_mk (st := s_computed) l22 c22 k22)⟩
  exact ok_op d_bits_of d_computed d_number_of F23
end Dec
open PySem PySem.W PyProof.Rows
set_option maxRecDepth 100000 in
set_option maxHeartbeats 0 in
theorem PySem.Challenge.cw_sixteendigits_s01_op_holds : PySem.Challenge.rw_sixteendigits_s01_op.Holds := by
  w_on; k_headS; (case hw => exact ⟨[.int 0, .int 0, .int 0], by decide +kernel, by decide +kernel⟩)
  k_fillS
  refine L2.walk_specK (r := PySem.Challenge.rw_sixteendigits_s01_op) (k := 8) (CX := L2.CX0) (ps := ["op", "a", "b"]) (sp := fun _ => Dec.sp_op) (by decide +kernel) rfl rfl ⟨rfl, by decide, by decide⟩ (fun w h Y => PySem.W.kIn_of Y) ?F ?S (fun _ _ _ _ z => z)
  case F =>
    intro w mg fa h Y KX G hmg
    refine' Dec.all_mk KX G hmg ?aC ?a0 ?i0 ?l0 ?c0 ?k0 ?pg ?hd ?po ?sa ?mk ?kc ?nk ?nm ?nc ?ne ?v_DIGITS ?v_FINITE ?v_HIGHEST_EXPONENT ?v_INFINITE ?v_LARGEST_COEFFICIENT ?v_LOWEST_EXPONENT ?v_NAN ?n_abs ?n_len ?n_max ?n_min ?n_range ?n_str ?nd ?a1 ?l1 ?c1 ?k1 ?a2 ?l2 ?c2 ?k2 ?a3 ?l3 ?c3 ?k3 ?a4 ?l4 ?c4 ?k4 ?a5 ?l5 ?c5 ?k5 ?a6 ?l6 ?c6 ?k6 ?a7 ?l7 ?c7 ?k7 ?a8 ?l8 ?c8 ?k8 ?a9 ?l9 ?c9 ?k9 ?a10 ?l10 ?c10 ?k10 ?a11 ?l11 ?c11 ?k11 ?a12 ?l12 ?c12 ?k12 ?a13 ?l13 ?c13 ?k13 ?a14 ?l14 ?c14 ?k14 ?a15 ?l15 ?c15 ?k15 ?a16 ?l16 ?c16 ?k16 ?a17 ?l17 ?c17 ?k17 ?a18 ?l18 ?c18 ?k18 ?a19 ?l19 ?c19 ?k19 ?a20 ?l20 ?c20 ?k20 ?a21 ?l21 ?c21 ?k21 ?a22 ?l22 ?c22 ?k22 ?a23 ?l23 ?c23 ?k23
    (case aC => k_is)
    (case a0 => k_is)
    (case i0 => k_is)
    (case l0 => k_is)
    (case c0 => k_is)
    (case k0 => k_is)
    (case pg => k_is)
    (case hd => k_is)
    (case po => k_is)
    (case sa => k_is)
    (case mk => k_is)
    (case kc => k_is)
    (case nk => k_is)
    (case nm => k_is)
    (case nc => k_is)
    (case ne => k_is)
    (case v_DIGITS => k_is)
    (case v_FINITE => k_is)
    (case v_HIGHEST_EXPONENT => k_is)
    (case v_INFINITE => k_is)
    (case v_LARGEST_COEFFICIENT => k_is)
    (case v_LOWEST_EXPONENT => k_is)
    (case v_NAN => k_is)
    (case n_abs => k_is)
    (case n_len => k_is)
    (case n_max => k_is)
    (case n_min => k_is)
    (case n_range => k_is)
    (case n_str => k_is)
    (case nd => k_is)
    (case a1 => k_is)
    (case l1 => k_is)
    (case c1 => k_is)
    (case k1 => k_is)
    (case a2 => k_is)
    (case l2 => k_is)
    (case c2 => k_is)
    (case k2 => k_is)
    (case a3 => k_is)
    (case l3 => k_is)
    (case c3 => k_is)
    (case k3 => k_is)
    (case a4 => k_is)
    (case l4 => k_is)
    (case c4 => k_is)
    (case k4 => k_is)
    (case a5 => k_is)
    (case l5 => k_is)
    (case c5 => k_is)
    (case k5 => k_is)
    (case a6 => k_is)
    (case l6 => k_is)
    (case c6 => k_is)
    (case k6 => k_is)
    (case a7 => k_is)
    (case l7 => k_is)
    (case c7 => k_is)
    (case k7 => k_is)
    (case a8 => k_is)
    (case l8 => k_is)
    (case c8 => k_is)
    (case k8 => k_is)
    (case a9 => k_is)
    (case l9 => k_is)
    (case c9 => k_is)
    (case k9 => k_is)
    (case a10 => k_is)
    (case l10 => k_is)
    (case c10 => k_is)
    (case k10 => k_is)
    (case a11 => k_is)
    (case l11 => k_is)
    (case c11 => k_is)
    (case k11 => k_is)
    (case a12 => k_is)
    (case l12 => k_is)
    (case c12 => k_is)
    (case k12 => k_is)
    (case a13 => k_is)
    (case l13 => k_is)
    (case c13 => k_is)
    (case k13 => k_is)
    (case a14 => k_is)
    (case l14 => k_is)
    (case c14 => k_is)
    (case k14 => k_is)
    (case a15 => k_is)
    (case l15 => k_is)
    (case c15 => k_is)
    (case k15 => k_is)
    (case a16 => k_is)
    (case l16 => k_is)
    (case c16 => k_is)
    (case k16 => k_is)
    (case a17 => k_is)
    (case l17 => k_is)
    (case c17 => k_is)
    (case k17 => k_is)
    (case a18 => k_is)
    (case l18 => k_is)
    (case c18 => k_is)
    (case k18 => k_is)
    (case a19 => k_is)
    (case l19 => k_is)
    (case c19 => k_is)
    (case k19 => k_is)
    (case a20 => k_is)
    (case l20 => k_is)
    (case c20 => k_is)
    (case k20 => k_is)
    (case a21 => k_is)
    (case l21 => k_is)
    (case c21 => k_is)
    (case k21 => k_is)
    (case a22 => k_is)
    (case l22 => k_is)
    (case c22 => k_is)
    (case k22 => k_is)
    (case a23 => k_is)
    (case l23 => k_is)
    (case c23 => k_is)
    (case k23 => k_is)
  case S =>
    intro K H xs a hO hwi hask hx
    cases hx with
    | cons h1 h2 =>
      cases h2 with
      | cons h2 h3 =>
        cases h3 with
        | cons h3 h4 =>
          cases h4
          cases h1
          cases h2
          cases h3
          have q : (Codec.inInt (-2147483648) 2147483647 a.1 && (Codec.inInt 0 18446744073709551615 a.2.1 && (Codec.inInt 0 18446744073709551615 a.2.2.1 && true))) = true := hwi
          rw [Bool.and_eq_true, Bool.and_eq_true, Bool.and_eq_true] at q
          have q1 := Codec.inInt_iff.mp q.2.1
          have q2 := Codec.inInt_iff.mp q.2.2.1
          refine ⟨a.1, a.2.1, a.2.2.1, rfl, q1.1, by omega, q2.1, by omega, fun H' p hp => .lst (L2.SqL.of hp) ?_⟩
          have e : PyKg10.op a.1 a.2.1 a.2.2.1 = [(Kg10.encode (Dec.opZ a.1 (Kg10.decode (Int.toNat a.2.1)) (Kg10.decode (Int.toNat a.2.2.1))) : Int)] := Dec.op_is _ _ _
          show L2.DwAll K H' _ ((PyKg10.op a.1 a.2.1 a.2.2.1).map WData.int)
          rw [e]
          exact .cons (.int _) .nil
