import PyProof.Rows.All
import Wide.All
import OpenK.AllK
import Wide.FinOn
import Lean
import PyProof.EqAt
import PyProof.EqKinds
import PyProof.TupleCall
import KE.KIntText
import PySem.Challenge.RW_manyhands_k02_lines
set_option Elab.async false
set_option linter.all false
set_option maxRecDepth 100000
namespace L2
open PySem PySem.Spec PyProof.Rows

abbrev Key := Sum Int Str
def keyIs : Key → Value → Bool
  | .inl k, v => Value.isInt k v
  | .inr x, v => Value.isStrOf x v
def keyH (w : World) : Key → Int
  | .inl k => hashInt k
  | .inr x => hashStr w x
theorem keyIs_shape : ∀ {k : Key} {v : Value}, keyIs k v = true → (∃ i t, k = Sum.inl i ∧ v = Value.int i t) ∨ (∃ x t, k = Sum.inr x ∧ v = Value.str x t)
  | .inl i, v, h => by
    obtain ⟨t, e⟩ := Value.isInt_shape (k := i) (v := v) h
    exact .inl ⟨i, t, rfl, e⟩
  | .inr x, v, h => by
    obtain ⟨t, e⟩ := Value.isStrOf_shape (x := x) (v := v) h
    exact .inr ⟨x, t, rfl, e⟩
theorem keyIs_int (i : Int) (t : Tok) : keyIs (.inl i) (.int i t) = true := by simp [keyIs, Value.isInt]
theorem keyIs_str (x : Str) (t : Tok) : keyIs (.inr x) (.str x t) = true := by simp [keyIs, Value.isStrOf]
theorem key_ll (a b : Int) : decide ((Sum.inl a : Key) = Sum.inl b) = (a == b) := by
  by_cases e : a = b
  · subst e; simp
  · have h : ¬ (Sum.inl a : Key) = Sum.inl b := fun q => e (Sum.inl.inj q)
    rw [decide_eq_false h]
    exact (beq_eq_false_iff_ne.mpr e).symm
theorem key_rr (a b : Str) : decide ((Sum.inr a : Key) = Sum.inr b) = decide (a = b) := by
  by_cases e : a = b
  · subst e; simp
  · have h : ¬ (Sum.inr a : Key) = Sum.inr b := fun q => e (Sum.inr.inj q)
    rw [decide_eq_false h, decide_eq_false e]
theorem key_lr (a : Int) (b : Str) : decide ((Sum.inl a : Key) = Sum.inr b) = false := decide_eq_false (fun q => nomatch q)
theorem key_rl (a : Str) (b : Int) : decide ((Sum.inr a : Key) = Sum.inl b) = false := decide_eq_false (fun q => nomatch q)

def mixKind (prog : Program) (w : World) : PySem.KeyKind prog w Key where
  is := keyIs
  hash := keyH w
  inj := fun v a b ha hb => by
    rcases keyIs_shape ha with ⟨i, t, rfl, rfl⟩ | ⟨x, t, rfl, rfl⟩
    · rcases keyIs_shape hb with ⟨j, u, rfl, e⟩ | ⟨y, u, rfl, e⟩
      · injection e with e1 _; rw [e1]
      · exact nomatch e
    · rcases keyIs_shape hb with ⟨j, u, rfl, e⟩ | ⟨y, u, rfl, e⟩
      · exact nomatch e
      · injection e with e1 _; rw [e1]
  byValue := fun k v h => by
    rcases keyIs_shape h with ⟨i, t, rfl, rfl⟩ | ⟨x, t, rfl, rfl⟩ <;> rfl
  pyHash := fun hv h => by
    rcases keyIs_shape hv with ⟨i, t, rfl, rfl⟩ | ⟨x, t, rfl, rfl⟩
    · exact wpAny_pyHash_int h
    · exact wpAny_pyHash_str h
  eqBool := fun hu hv h => by
    rcases keyIs_shape hu with ⟨i, t, rfl, rfl⟩ | ⟨x, t, rfl, rfl⟩
    · rcases keyIs_shape hv with ⟨j, u, rfl, rfl⟩ | ⟨y, u, rfl, rfl⟩
      · rw [key_ll] at h; exact wpAny_eqBool_int h
      · rw [key_lr] at h; exact SeqAt.EqAt.int_str i t y u _ _ _ _ h
    · rcases keyIs_shape hv with ⟨j, u, rfl, rfl⟩ | ⟨y, u, rfl, rfl⟩
      · rw [key_rl] at h; exact SeqAt.EqAt.str_int x t j u _ _ _ _ h
      · rw [key_rr] at h; exact wpAny_eqBool_str h
  «strs» := fun k x t v h => by
    rcases keyIs_shape h with ⟨i, u, rfl, e⟩ | ⟨y, u, rfl, e⟩
    · exact nomatch e
    · injection e with e1 _
      subst e1
      cases v <;> rfl

theorem mixKind_int (prog : Program) (w : World) (i : Int) (t : Tok) : (mixKind prog w).is (.inl i) (.int i t) = true := keyIs_int i t
theorem mixKind_str (prog : Program) (w : World) (x : Str) (t : Tok) : (mixKind prog w).is (.inr x) (.str x t) = true := keyIs_str x t
end L2

namespace L2
open PySem PySem.Spec PyProof.Rows

inductive V where
  | non | bl (b : Bool) | int (i : Int) | str (x : Str) | byt (b : Array UInt8) | flt (b : UInt64) | ref (a : Addr) | ty (n : String)
  deriving DecidableEq

def RelV : V → Value → Prop
  | .non, u => u = Value.none
  | .bl b, u => u = Value.bool b
  | .int i, u => ∃ t, u = Value.int i t
  | .str x, u => ∃ t, u = Value.str x t
  | .byt b, u => ∃ t, u = Value.bytes b t
  | .flt b, u => ∃ t, u = Value.float b t
  | .ref a, u => u = Value.ref a
  | .ty n, u => u = Value.type n

abbrev Vals : List V → List Value → Prop := Paired RelV
theorem Vals.length {xs : List V} {us : List Value} (r : Vals xs us) : xs.length = us.length := Paired.length r
theorem Vals.get : ∀ {xs : List V} {us : List Value} {i : Nat} {x : V}, Vals xs us → xs[i]? = some x → ∃ u, us[i]? = some u ∧ RelV x u
  | _, _, _, _, .nil, e => by simp at e
  | _, _, 0, _, .cons r _, e => by simp at e; subst e; exact ⟨_, rfl, r⟩
  | _, _, i + 1, x, .cons _ t, e => by
    obtain ⟨u, h1, h2⟩ := Vals.get (i := i) (x := x) t (by simpa using e)
    exact ⟨u, by simpa using h1, h2⟩
theorem Vals.set {x : V} {u : Value} (r : RelV x u) : ∀ {xs : List V} {us : List Value} (i : Nat), Vals xs us → Vals (xs.set i x) (us.set i u)
  | _, _, _, .nil => .nil
  | _, _, 0, .cons _ t => .cons r t
  | _, _, i + 1, .cons q t => .cons q (Vals.set r i t)
theorem Vals.append : ∀ {xs ys : List V} {us ws : List Value}, Vals xs us → Vals ys ws → Vals (xs ++ ys) (us ++ ws)
  | _, _, _, _, .nil, s => s
  | _, _, _, _, .cons r t, s => .cons r (Vals.append t s)
theorem Vals.take : ∀ {xs : List V} {us : List Value} (n : Nat), Vals xs us → Vals (xs.take n) (us.take n)
  | _, _, 0, _ => .nil
  | _, _, _ + 1, .nil => .nil
  | _, _, n + 1, .cons r t => .cons r (Vals.take n t)
theorem Vals.drop : ∀ {xs : List V} {us : List Value} (n : Nat), Vals xs us → Vals (xs.drop n) (us.drop n)
  | _, _, 0, r => r
  | _, _, _ + 1, .nil => .nil
  | _, _, n + 1, .cons _ t => Vals.drop n t
def RelO : Option V → Option Value → Prop
  | some v, some u => RelV v u
  | none, none => True
  | _, _ => False
def KV {κ : Type} : List (κ × V) → List (κ × Value) → Prop := Paired fun (p : κ × V) (q : κ × Value) => p.1 = q.1 ∧ RelV p.2 q.2

def kV : Key → V
  | .inl i => .int i
  | .inr x => .str x

inductive HO where
  
  | lst (xs : List V)
  
  | tup (xs : List V)
  
  | dK (kvs : List (Key × V)) | dT (kvs : List (List Key × V))
  
  | set (S : Int → Bool) (n : Nat)
  
  | ins (C dx : Addr) (fs : List (Str × V))
  
  | own (x : Addr)
  
  | xd (fs : List (Str × V))
  
  | met (f x : Addr)
  
  | rng (lo hi : Int)
  
  | frz (o : Obj) (u : HO)
  
  | tbl (ps : Array Value)
  
  | ext (φ : Heap → Prop)

abbrev Hp := Addr → Option HO
def upd (H : Hp) (a : Addr) (o : HO) : Hp := fun b => if b = a then some o else H b
theorem upd_same {H : Hp} {a : Addr} {o : HO} : upd H a o a = some o := by unfold upd; rw [if_pos rfl]
theorem upd_ne {H : Hp} {a b : Addr} {o : HO} (h : b ≠ a) : upd H a o b = H b := by unfold upd; rw [if_neg h]
theorem ne_of_none {H : Hp} {a b : Addr} {o : HO} (h : H a = some o) (h' : H b = none) : a ≠ b := by
  intro e; subst e; rw [h] at h'; cases h'

section
variable (P : Program) (w : World)
def ObjOk (H : Hp) (h : Heap) (a : Addr) : HO → Prop
  | .lst xs => xs.length ≤ sizeLine ∧ ∃ (its : List Value) (n : Nat), Vals xs its ∧ h.get? a = some { cls := .type "list", data := .seq its.toArray n }
  | .tup xs => xs.length ≤ sizeLine ∧ ∃ its : List Value, Vals xs its ∧ IsTup h a its.toArray
  | .dK kvs => kvs.length ≤ sizeLine ∧ (a == sysModules) = false ∧ ∃ vs, KV kvs vs ∧ h.DictOf (mixKind P w) a vs
  | .dT kvs => kvs.length ≤ sizeLine ∧ (a == sysModules) = false ∧ ∃ xs : List (List Key × Addr × Value),
      Paired (fun (p : List Key × V) (q : List Key × Addr × Value) => p.1 = q.1 ∧ H q.2.1 = some (.tup (p.1.map kV)) ∧ RelV p.2 q.2.2) kvs xs ∧
      ∃ o es ep, h.get? a = some o ∧ o.ExactDict ∧ o.data = .dict es ep ∧ es.toList = xs.map (entryOfKey (tupleKind (mixKind P w))) ∧ (xs.map (·.1)).Nodup
  | .set S n => h.SetOf (intKind P w) a S n
  | .ins C dx fs => H dx = some (.own a) ∧ fs.length ≤ 1000 ∧ dx ≠ a ∧ h.get? a = some (PySem.W.instObj C dx) ∧
      ∃ mA, h.Ns1 dx mA ∧ (∀ f, RelO (fs.lookup f) (mA f)) ∧ PySem.Within mA (fs.map (·.1))
  | .own _ => ∃ o, h.get? a = some o
  | .xd fs => ∃ mA, h.Ns1 a mA ∧ ∀ f, RelO (fs.lookup f) (mA f)
  | .rng lo hi => ∃ t u v, h.get? a = some { cls := .type "range", data := .fields #[.int lo t, .int hi u, .int 1 v] }
  | .frz o u => h.get? a = some o ∧ ObjOk H h a u
  | .tbl ps => h.get? a = some { cls := .none, data := .fields ps }
  | .met f x => h.get? a = some (PySem.W.methodObj (.ref f) (.ref x))
  | .ext φ => φ h ∧ (∃ o, h.get? a = some o) ∧ ∀ h1 h2 : Heap, φ h1 → (∀ o, h1.get? a = some o → h2.get? a = some o) → φ h2
def HOk (H : Hp) (h : Heap) : Prop := ∀ a o, H a = some o → ObjOk P w H h a o
end

section
variable {P : Program} {w : World} {H H' : Hp} {h h' : Heap} {a : Addr} {o : HO}
theorem ObjOk.lt (x : ObjOk P w H h a o) : a < h.objs.size := by
  cases o with
  | lst xs => obtain ⟨_, _, _, _, e⟩ := x; exact Heap.lt_size e
  | tup xs => obtain ⟨_, _, _, p⟩ := x; exact p.lt
  | dK kvs => obtain ⟨_, _, _, _, o, _, _, e, _⟩ := x; exact Heap.lt_size e
  | dT kvs => obtain ⟨_, _, _, _, o, _, _, e, _⟩ := x; exact Heap.lt_size e
  | set S n => obtain ⟨o, _, _, _, e, _⟩ := x; exact Heap.lt_size e
  | ins C dx fs => obtain ⟨_, _, _, e, _⟩ := x; exact Heap.lt_size e
  | own y => obtain ⟨_, e⟩ := x; exact Heap.lt_size e
  | xd fs => obtain ⟨_, ⟨_, _, _, e, _⟩, _⟩ := x; exact Heap.lt_size e
  | rng lo hi => obtain ⟨_, _, _, e⟩ := x; exact Heap.lt_size e
  | frz ob u => obtain ⟨e, _⟩ := x; exact Heap.lt_size e
  | tbl ps => exact Heap.lt_size (show h.get? a = some _ from x)
  | met f y => exact Heap.lt_size (show h.get? a = some _ from x)
  | ext φ => obtain ⟨_, ⟨_, e⟩, _⟩ := x; exact Heap.lt_size e
theorem Paired.mapP {α β : Type} {F G : α → β → Prop} : ∀ {l₁ : List α} {l₂ : List β}, Paired F l₁ l₂ → (∀ a b, F a b → G a b) → Paired G l₁ l₂
  | _, _, .nil, _ => .nil
  | _, _, .cons r t, f => .cons (f _ _ r) (Paired.mapP t f)
theorem ObjOk.stay (x : ObjOk P w H h a o) (k : ∀ b u, (b = a ∨ H b = some (.own a)) → h.get? b = some u → h'.get? b = some u)
    (ho : ∀ b, H b = some (.own a) → H' b = some (.own a)) (ht : ∀ b xs, H b = some (.tup xs) → H' b = some (.tup xs)) : ObjOk P w H' h' a o := by
  induction o with
  | lst xs => obtain ⟨z, its, n, r, e⟩ := x; exact ⟨z, its, n, r, k _ _ (.inl rfl) e⟩
  | tup xs => obtain ⟨z, its, r, ob, e, c⟩ := x; exact ⟨z, its, r, ob, k _ _ (.inl rfl) e, c⟩
  | dK kvs => obtain ⟨z, y, vs, r, ob, es, ep, e, c⟩ := x; exact ⟨z, y, vs, r, ob, es, ep, k _ _ (.inl rfl) e, c⟩
  | dT kvs =>
    obtain ⟨z, y, xs, r, ob, es, ep, e, c⟩ := x
    exact ⟨z, y, xs, Paired.mapP r fun p q z => ⟨z.1, ht _ _ z.2.1, z.2.2⟩, ob, es, ep, k _ _ (.inl rfl) e, c⟩
  | set S n => obtain ⟨ob, es, ep, t, e, c⟩ := x; exact ⟨ob, es, ep, t, k _ _ (.inl rfl) e, c⟩
  | ins C dx fs =>
    obtain ⟨d, z, ne, e, mA, ⟨od, es, ep, e2, c⟩, r⟩ := x
    exact ⟨ho _ d, z, ne, k _ _ (.inl rfl) e, mA, ⟨od, es, ep, k _ _ (.inr d) e2, c⟩, r⟩
  | own y => obtain ⟨ob, e⟩ := x; exact ⟨ob, k _ _ (.inl rfl) e⟩
  | xd fs => obtain ⟨mA, ⟨od, es, ep, e, c⟩, r⟩ := x; exact ⟨mA, ⟨od, es, ep, k _ _ (.inl rfl) e, c⟩, r⟩
  | rng lo hi => obtain ⟨t, u, v, e⟩ := x; exact ⟨t, u, v, k _ _ (.inl rfl) e⟩
  | frz ob u ih => obtain ⟨e, q⟩ := x; exact ⟨k _ _ (.inl rfl) e, ih q⟩
  | tbl ps =>
    have e : h.get? a = some { cls := .none, data := .fields ps } := x
    show h'.get? a = some { cls := .none, data := .fields ps }
    exact k a _ (.inl rfl) e
  | met f y =>
    have e : h.get? a = some (PySem.W.methodObj (.ref f) (.ref y)) := x
    show h'.get? a = some (PySem.W.methodObj (.ref f) (.ref y))
    exact k a _ (.inl rfl) e
  | ext φ => obtain ⟨p, ⟨o, e⟩, st⟩ := x; exact ⟨st _ _ p fun o q => k _ _ (.inl rfl) q, ⟨o, k _ _ (.inl rfl) e⟩, st⟩
theorem HOk.lt (x : HOk P w H h) (e : H a = some o) : a < h.objs.size := (x a o e).lt
theorem HOk.fresh (x : HOk P w H h) (e : h.objs.size ≤ a) : H a = none := by
  cases q : H a with
  | none => rfl
  | some u => exact absurd (Nat.lt_of_lt_of_le (x.lt q) e) (Nat.lt_irrefl _)
theorem HOk.kept (x : HOk P w H h) (k : ∀ b u, h.get? b = some u → h'.get? b = some u) : HOk P w H h' := fun a o e =>
  (x a o e).stay (fun b u _ q => k b u q) (fun _ q => q) fun _ _ q => q
theorem HOk.laid (x : HOk P w H h) (k : ∀ b u, h.get? b = some u → h'.get? b = some u) (hp : h.objs.size ≤ a) (new : ObjOk P w (upd H a o) h' a o) : HOk P w (upd H a o) h' := fun b u e => by
  have hn := x.fresh hp
  by_cases hb : b = a
  · subst hb; rw [upd_same] at e; cases e; exact new
  · rw [upd_ne hb] at e
    exact (x b u e).stay (fun c v _ q => k c v q) (fun c q => by rw [upd_ne (ne_of_none q hn)]; exact q) fun c xs q => by rw [upd_ne (ne_of_none q hn)]; exact q
end

def Rd (H : Hp) (a : Addr) (u : HO) : Prop := H a = some u ∨ ∃ o, H a = some (.frz o u)
theorem Rd.of {H : Hp} {a : Addr} {u : HO} (h : H a = some u) : Rd H a u := .inl h
theorem Rd.ok {P : Program} {w : World} {H : Hp} {h : Heap} {a : Addr} {u : HO} (r : Rd H a u) (x : HOk P w H h) : ObjOk P w H h a u := by
  rcases r with r | ⟨o, r⟩
  · exact x a u r
  · obtain ⟨_, q⟩ := x a _ r
    exact q
def Mut : Option HO → Prop
  | some (.lst _) => True
  | some (.dK _) => True
  | some (.dT _) => True
  | some (.set _ _) => True
  | some (.ins _ _ _) => True
  | some (.ext _) => True
  | _ => False
section
variable {P : Program} {w : World} {H : Hp} {h h' : Heap} {x e : Addr} {o' : HO}
theorem HOk.write (ok : HOk P w H h) (mu : Mut (H x)) (he : e = x ∨ H e = some (.own x)) (k : ∀ b u, b ≠ e → h.get? b = some u → h'.get? b = some u) (heo : ∃ u, h'.get? e = some u)
    (new : ObjOk P w (upd H x o') h' x o') : HOk P w (upd H x o') h' := fun b u q => by
  have nown : ∀ c y, H c = some (.own y) → c ≠ x := fun c y r z => by subst z; rw [r] at mu; exact mu
  have ntup : ∀ c xs, H c = some (.tup xs) → c ≠ x := fun c xs r z => by subst z; rw [r] at mu; exact mu
  by_cases hb : b = x
  · subst hb; rw [upd_same] at q; cases q; exact new
  · rw [upd_ne hb] at q
    by_cases hbe : b = e
    · have q' : H b = some (.own x) := by
        rcases he with z | z
        · exact absurd (hbe.trans z) hb
        · rw [hbe]; exact z
      rw [q] at q'; cases q'
      obtain ⟨v, hv⟩ := heo
      exact ⟨v, by rw [hbe]; exact hv⟩
    · refine (ok b u q).stay (fun c v hc r => k c v ?_ r) (fun c r => by rw [upd_ne (nown c b r)]; exact r) fun c xs r => by rw [upd_ne (ntup c xs r)]; exact r
      rcases hc with rfl | hc
      · exact hbe
      · rintro rfl
        rcases he with z | z
        · exact nown c b hc z
        · rw [hc] at z; cases z; exact hb rfl
end

structure Un (fs ex : List Addr) (H H' : Hp) (h h' : Heap) : Prop where
  keep : ∀ b o, h.get? b = some o → H b = none → b ∉ fs → b ∉ ex → h'.get? b = some o
  slot : ∀ b o, h.get? b = some o → H b = none → b ∈ fs → b ∉ ex → ∃ sl, h'.get? b = some { o with slots := sl }
  free : ∀ b o, h.get? b = some o → H b = none → b ∉ ex → H' b = none
  there : ∀ b o, h.get? b = some o → b ∉ ex → ∃ o', h'.get? b = some o'
  tups : ∀ b xs, H b = some (.tup xs) → H' b = some (.tup xs)
  frzs : ∀ b o u, H b = some (.frz o u) → H' b = some (.frz o u)
  tbls : ∀ b ps, H b = some (.tbl ps) → ∃ more, H' b = some (.tbl (ps ++ more))
section
variable {fs fs' ex ex' : List Addr} {H H1 H2 : Hp} {h h1 h2 h' : Heap} {a x e : Addr} {o : HO}
theorem Un.any (u : Un fs ex H H1 h h1) {b : Addr} {ob : Obj} (q : h.get? b = some ob) (n : H b = none) (hx : b ∉ ex) : ∃ sl, h1.get? b = some { ob with slots := sl } := by
  by_cases hb : b ∈ fs
  · exact u.slot b ob q n hb hx
  · exact ⟨ob.slots, u.keep b ob q n hb hx⟩
theorem Un.trans (a : Un fs ex H H1 h h1) (b : Un fs ex H1 H2 h1 h2) : Un fs ex H H2 h h2 where
  keep := fun c ob q n hc hx => b.keep c ob (a.keep c ob q n hc hx) (a.free c ob q n hx) hc hx
  slot := fun c ob q n hc hx => by
    obtain ⟨sl, e1⟩ := a.slot c ob q n hc hx
    obtain ⟨sl', e2⟩ := b.slot c _ e1 (a.free c ob q n hx) hc hx
    exact ⟨sl', e2⟩
  free := fun c ob q n hx => by
    obtain ⟨o', e1⟩ := a.there c ob q hx
    exact b.free c o' e1 (a.free c ob q n hx) hx
  there := fun c ob q hx => by
    obtain ⟨o', e1⟩ := a.there c ob q hx
    exact b.there c o' e1 hx
  tups := fun c xs q => b.tups c xs (a.tups c xs q)
  frzs := fun c ob xs q => b.frzs c ob xs (a.frzs c ob xs q)
  tbls := fun c ps q => by
    obtain ⟨m1, e1⟩ := a.tbls c ps q
    obtain ⟨m2, e2⟩ := b.tbls c _ e1
    exact ⟨m1 ++ m2, by rw [e2, Array.append_assoc]⟩
theorem Un.kept (k : ∀ b u, h.get? b = some u → h'.get? b = some u) : Un fs ex H H h h' :=
  ⟨fun b ob q _ _ _ => k b ob q, fun b ob q _ _ _ => ⟨ob.slots, k b ob q⟩, fun _ _ _ n _ => n, fun b ob q _ => ⟨ob, k b ob q⟩, fun _ _ q => q, fun _ _ _ q => q, fun _ ps q => ⟨#[], by rw [q]; simp⟩⟩
theorem Un.refl : Un fs ex H H h h := Un.kept fun _ _ q => q
theorem Un.laid (k : ∀ b u, h.get? b = some u → h'.get? b = some u) (hp : h.objs.size ≤ a) (hn : H a = none) : Un fs ex H (upd H a o) h h' where
  keep := fun b u q _ _ _ => k b u q
  slot := fun b u q _ _ _ => ⟨u.slots, k b u q⟩
  free := fun b u q n _ => by rw [upd_ne (Nat.ne_of_lt (Nat.lt_of_lt_of_le (Heap.lt_size q) hp))]; exact n
  there := fun b u q _ => ⟨u, k b u q⟩
  tups := fun b xs q => by rw [upd_ne (ne_of_none q hn)]; exact q
  frzs := fun b u xs q => by rw [upd_ne (ne_of_none q hn)]; exact q
  tbls := fun b ps q => ⟨#[], by rw [upd_ne (ne_of_none q hn), q]; simp⟩
theorem Un.write (mu : Mut (H x)) (he : e = x ∨ H e = some (.own x)) (k : ∀ b u, b ≠ e → h.get? b = some u → h'.get? b = some u) (heo : ∃ u, h'.get? e = some u) : Un fs ex H (upd H x o) h h' := by
  have hx : ∀ b, H b = none → b ≠ x := fun b n z => by subst z; rw [n] at mu; exact mu
  have hb : ∀ b, H b = none → b ≠ e := fun b n z => by
    subst z
    rcases he with r | r
    · exact hx b n r
    · rw [n] at r; cases r
  have hm : ∀ b u, H b = some u → ¬ Mut (some u) → b ≠ x := fun b u q nm z => by subst z; rw [q] at mu; exact nm mu
  refine ⟨fun b u q n _ _ => k b u (hb b n) q, fun b u q n _ _ => ⟨u.slots, k b u (hb b n) q⟩, fun b u q n _ => by rw [upd_ne (hx b n)]; exact n, fun b u q _ => ?_,
    fun b xs q => by rw [upd_ne (hm b _ q fun z => z)]; exact q, fun b u xs q => by rw [upd_ne (hm b _ q fun z => z)]; exact q, fun b ps q => ⟨#[], by rw [upd_ne (hm b _ q fun z => z), q]; simp⟩⟩
  by_cases hbe : b = e
  · subst hbe; exact heo
  · exact ⟨u, k b u hbe q⟩
theorem Un.mono (u : Un fs ex H H1 h h1) (hs : ∀ b ∈ fs, b ∈ fs') (hx : ∀ b ∈ ex, b ∈ ex') : Un fs' ex' H H1 h h1 :=
  ⟨fun b ob q n hb he => u.keep b ob q n (fun z => hb (hs b z)) fun z => he (hx b z), fun _ _ q n _ he => u.any q n fun z => he (hx _ z), fun b ob q n he => u.free b ob q n fun z => he (hx b z), fun b ob q he => u.there b ob q fun z => he (hx b z), u.tups, u.frzs, u.tbls⟩
end

def trk (h : Heap) (H : Hp) : List Addr := (List.range h.objs.size).filter fun a => (H a).isSome
def hidT (h : Heap) (H : Hp) : Heap := PySem.W.hideAll h (trk h H)
theorem hidT_size (h : Heap) (H : Hp) : (hidT h H).objs.size = h.objs.size := PySem.W.hideAll_size _ _
theorem hidT_get {h : Heap} {H : Hp} {b : Addr} {o : Obj} (e : h.get? b = some o) (n : H b = none) : (hidT h H).get? b = some o :=
  PySem.W.hideAll_get _ e fun hm => by
    have q : (H b).isSome = true := (List.mem_filter.mp hm).2
    rw [n] at q; simp at q
theorem of_hidT {h : Heap} {H : Hp} {b : Addr} {o : Obj} (e : (hidT h H).get? b = some o) : h.get? b = some o ∧ H b = none := by
  have e' : h.get? b = some o := PySem.W.of_hideAll (trk h H) e
  refine ⟨e', ?_⟩
  cases q : H b with
  | none => rfl
  | some x =>
    have hm : b ∈ trk h H := List.mem_filter.mpr ⟨List.mem_range.mpr (Heap.lt_size e'), by simp [q]⟩
    have z : (hidT h H).get? b = none := PySem.W.hideAll_none (trk h H) hm
    rw [z] at e; cases e

def allNews (g h : Heap) (L : Addr) : List (Addr × Obj) := (List.range h.objs.size).filterMap fun a => if a = L ∨ (g.get? a).isSome = true then none else (h.get? a).map fun o => (a, o)
def rest (g h : Heap) (L d : Addr) : List (Addr × Obj) := (allNews g h L).filter fun p => decide (p.1 ≠ d)
end L2

namespace L2
open PySem PySem.Spec PyProof.Rows

structure Mod (K : PySem.W.Frag) (mg : Str → Option Value) (base : Heap) : Prop where
  kin : K.In base
  glob : base.Ns mainGlobals mg
  blt : ∃ mb, base.Ns builtinsNs mb ∧ ∀ x : Str, x ≠ "__name__" → mb x = bootBuiltins x
  nolimit : base.NoLimit

structure Cx where
  prog : Program
  w : World
  K : PySem.W.Frag
  mg : Str → Option Value
  base : Heap
  A : Around
  N : List Str
  s₀ : Shared
  H₀ : Hp
  env : Env
  outer : List Env
  stack : List Env
  ex : List Addr
  fn : Str → Bool
  calm : Bool
  pn : List (Addr × Obj)
  xe : Value → Shared → Prop
def frs (l : List Env) : List Addr := l.filterMap (·.frame)
abbrev Cx.fs (X : Cx) : List Addr := frs X.outer

def Vis (sc : Scope) (x : Str) : Prop := sc.names.lookup x = some .local ∨ sc.names.lookup x = some .cell ∨ sc.names.lookup x = some .free
def Loc (sc : Scope) (x : Str) : Prop := sc.names.lookup x = some .local ∨ sc.names.lookup x = some .cell
def Look (env : Env) (h : Heap) (m : Str → Option Value) (x : Str) (u : Value) : Prop :=
  (env.kindOf x = some .local ∧ m x = some u) ∨ ((env.kindOf x = some .cell ∨ env.kindOf x = some .free) ∧ ∃ c, env.cells.lookup x = some c ∧ h.IsCell c (some u))

structure Cx.Ok (X : Cx) : Prop where
  mod : Mod X.K X.mg X.base
  kind : X.env.scope.kind = .function
  glob : X.env.globals = mainGlobals
  blt : X.env.builtins = builtinsNs
  above : X.s₀.heap.objs.size ≤ X.env.locals
  inj : ∀ x y c, X.env.cells.lookup x = some c → X.env.cells.lookup y = some c → x = y
  has : ∀ x, (X.env.kindOf x = some .cell ∨ X.env.kindOf x = some .free) → ∃ c, X.env.cells.lookup x = some c
  cab : ∀ x c, X.fn x = true → X.env.cells.lookup x = some c → X.s₀.heap.objs.size ≤ c
  hd : X.calm = true → X.A.handled = none
  frames : X.A.frames = some X.stack
  stk : X.stack = X.outer ∨ (X.stack = X.env :: X.outer ∧ X.env.frame = some X.env.locals)
  exf : ∀ b ∈ X.ex, b ≠ X.env.locals ∧ ∀ x c, X.env.cells.lookup x = some c → c ≠ b
  bs : ∀ b o, X.base.get? b = some o → X.s₀.heap.get? b = some o ∧ X.H₀ b = none
  bsz : X.base.objs.size ≤ X.s₀.heap.objs.size
  noex : ∀ b o, X.base.get? b = some o → b ∉ X.ex
  exfs : ∀ b ∈ X.ex, b ∉ X.fs
  funs : X.s₀.heap.FunFrames X.base X.outer
  frf : ∀ b ∈ X.fs, X.H₀ b = none

structure Inv (X : Cx) (pins : List (Addr × Obj)) (σ : List (Option V)) (H : Hp) (s : Shared) : Prop where
  ok : X.Ok
  os : s.os = X.s₀.os
  bare : AllBare s.gens
  base : Un X.fs X.ex X.H₀ H X.s₀.heap s.heap
  loc : ∃ m, s.heap.Ns X.env.locals m ∧ ∀ (i : Nat) (x : Str) (v : V), X.N[i]? = some x → σ[i]? = some (some v) → Vis X.env.scope x → ∃ u, RelV v u ∧ Look X.env s.heap m x u
  cell : ∀ x c, X.env.cells.lookup x = some c → ∃ v, s.heap.IsCell c v
  free : H X.env.locals = none
  freeC : ∀ x c, X.env.cells.lookup x = some c → H c = none
  pin : ∀ p ∈ X.pn ++ pins, s.heap.get? p.1 = some p.2 ∧ H p.1 = none ∧ p.1 ≠ X.env.locals ∧ p.1 ∉ X.fs ∧ ∀ v, p.2.data ≠ .cell v
  hok : HOk X.prog X.w H s.heap
  len : σ.length = X.N.length

section
variable {X : Cx} {pins : List (Addr × Obj)} {σ : List (Option V)} {H H' : Hp} {s : Shared} {h' : Heap}

theorem Cx.Ok.nofr (ok : X.Ok) {b : Addr} {o : Obj} (e : X.base.get? b = some o) : b ∉ X.fs := fun hb => by
  have := (ok.funs.mem hb).1
  rw [e] at this; cases this
theorem Inv.bs (I : Inv X pins σ H s) : ∀ b o, X.base.get? b = some o → s.heap.get? b = some o ∧ H b = none := fun b o e =>
  ⟨I.base.keep b o (I.ok.bs b o e).1 (I.ok.bs b o e).2 (I.ok.nofr e) (I.ok.noex b o e), I.base.free b o (I.ok.bs b o e).1 (I.ok.bs b o e).2 (I.ok.noex b o e)⟩
theorem Inv.bk (I : Inv X pins σ H s) : ∀ b o, X.base.get? b = some o → s.heap.get? b = some o := fun b o e => (I.bs b o e).1
theorem Inv.mod (I : Inv X pins σ H s) : Mod X.K X.mg X.base := I.ok.mod
theorem Inv.kIn (I : Inv X pins σ H s) : X.K.In s.heap := I.ok.mod.kin.keeps I.bk
theorem Inv.nolimit (I : Inv X pins σ H s) : s.heap.NoLimit := I.ok.mod.nolimit.keeps I.bk
theorem Inv.fr (I : Inv X pins σ H s) : ∃ m, Fr X.base X.env.locals s.heap m :=
  let ⟨m, hn, _⟩ := I.loc
  ⟨m, hn, I.bk, Nat.le_trans I.ok.bsz I.ok.above⟩
theorem Inv.lt (I : Inv X pins σ H s) : X.env.locals < s.heap.objs.size := let ⟨_, hn, _⟩ := I.loc; hn.lt
theorem Inv.sz (I : Inv X pins σ H s) : X.s₀.heap.objs.size ≤ s.heap.objs.size := Nat.le_trans I.ok.above (Nat.le_of_lt I.lt)
theorem Inv.nofs (I : Inv X pins σ H s) {a : Addr} (h : s.heap.objs.size ≤ a) : a ∉ X.fs := fun hb => by
  obtain ⟨_, o, ho, _⟩ := I.ok.funs.mem hb
  exact absurd (Nat.lt_of_lt_of_le (Heap.lt_size ho) (Nat.le_trans I.sz h)) (Nat.lt_irrefl _)
theorem Inv.cne (I : Inv X pins σ H s) : ∀ x c, X.env.cells.lookup x = some c → c ≠ X.env.locals := fun x c e z => by
  obtain ⟨v, o, ho, hd⟩ := I.cell x c e
  obtain ⟨m, ⟨o', es, ep, ho', hd', _⟩, _⟩ := I.loc
  rw [z, ho'] at ho; cases ho; rw [hd'] at hd; cases hd
theorem Inv.funs (I : Inv X pins σ H s) : s.heap.FunFrames X.base X.outer := by
  have all : ∀ (l : List Env), (∀ b ∈ frs l, b ∈ X.fs) → X.s₀.heap.FunFrames X.base l → s.heap.FunFrames X.base l := by
    intro l
    induction l with
    | nil => intro _ _; trivial
    | cons env r ih =>
      intro hs hl
      obtain ⟨hk, ⟨L, o, hf, hn, ho, hd⟩, hr⟩ := hl
      have hL : L ∈ X.fs := hs L (by unfold frs; rw [List.filterMap_cons, hf]; exact List.mem_cons_self)
      obtain ⟨sl, e⟩ := I.base.slot L o ho (I.ok.frf L hL) hL fun z => I.ok.exfs L z hL
      exact ⟨hk, ⟨L, _, hf, hn, e, hd⟩, ih (fun b hb => hs b (by unfold frs; rw [List.filterMap_cons, hf]; exact List.mem_cons_of_mem _ hb)) hr⟩
  exact all X.outer (fun _ hb => hb) I.ok.funs

theorem Inv.stack (I : Inv X pins σ H s) : s.heap.FunFrames X.base X.stack := by
  rcases I.ok.stk with e | ⟨e, hf⟩
  · rw [e]; exact I.funs
  · rw [e]
    obtain ⟨m, hn, _⟩ := I.loc
    refine .cons (by rw [I.ok.kind]; decide) hf hn ?_ I.funs
    exact Heap.get?_none_of_le (Nat.le_trans I.ok.bsz I.ok.above)
theorem Inv.stkSub (I : Inv X pins σ H s) : ∀ b ∈ frs X.stack, b ∈ X.env.locals :: X.fs := fun b hb => by
  rcases I.ok.stk with e | ⟨e, hf⟩
  · rw [e] at hb; exact List.mem_cons_of_mem _ hb
  · rw [e] at hb
    unfold frs at hb
    rw [List.filterMap_cons, hf] at hb
    exact hb
theorem Inv.stkFree (I : Inv X pins σ H s) : ∀ b ∈ frs X.stack, H b = none := fun b hb => by
  rcases List.mem_cons.mp (I.stkSub b hb) with e | hb
  · rw [e]; exact I.free
  · obtain ⟨_, o, ho, _⟩ := I.ok.funs.mem hb
    exact I.base.free b o ho (I.ok.frf b hb) fun z => I.ok.exfs b z hb

theorem Inv.step {g' : Array GenState} {t' : Nat} {d' : Drawn} {ch : List Addr} (I : Inv X pins σ H s)
    (hch : ∀ b ∈ ch, (b ∈ X.ex ∨ X.s₀.heap.objs.size ≤ b) ∧ b ≠ X.env.locals ∧ (∀ x c, X.env.cells.lookup x = some c → c ≠ b) ∧ ∀ p ∈ X.pn ++ pins, p.1 ≠ b)
    (keep : ∀ b o, b ≠ X.env.locals → b ∉ X.fs → b ∉ ch → s.heap.get? b = some o → H b = none → h'.get? b = some o)
    (slot : ∀ b o, b ≠ X.env.locals → b ∈ X.fs → b ∉ ch → s.heap.get? b = some o → H b = none → ∃ sl, h'.get? b = some { o with slots := sl }) (free : ∀ b o, b ∉ ch → s.heap.get? b = some o → H b = none → H' b = none)
    (there : ∀ b o, b ∉ ch → s.heap.get? b = some o → ∃ o', h'.get? b = some o')
    (tups : ∀ b xs, H b = some (.tup xs) → H' b = some (.tup xs)) (frzs : ∀ b o u, H b = some (.frz o u) → H' b = some (.frz o u)) (tbls : ∀ b ps, H b = some (.tbl ps) → ∃ more, H' b = some (.tbl (ps ++ more)))
    (ns : ∀ m, s.heap.Ns X.env.locals m → h'.Ns X.env.locals m) (hok : HOk X.prog X.w H' h') (hg : AllBare g') :
    Inv X pins σ H' { s with heap := h', gens := g', drawn := d', toks := t' } := by
  have neL : ∀ b o, X.s₀.heap.get? b = some o → b ≠ X.env.locals := fun b o e => Nat.ne_of_lt (Nat.lt_of_lt_of_le (Heap.lt_size e) I.ok.above)
  have neC : ∀ b o, X.s₀.heap.get? b = some o → b ∉ X.ex → b ∉ ch := fun b o e hx hb => by
    rcases (hch b hb).1 with z | z
    · exact hx z
    · exact absurd (Nat.lt_of_lt_of_le (Heap.lt_size e) z) (Nat.lt_irrefl _)
  have cellK : ∀ x c, X.env.cells.lookup x = some c → ∀ v, s.heap.IsCell c v → h'.IsCell c v := fun x c e v ⟨o, ho, hd⟩ => by
    have nch : c ∉ ch := fun z => (hch c z).2.2.1 x c e rfl
    by_cases hc : c ∈ X.fs
    · obtain ⟨sl, q⟩ := slot c o (I.cne x c e) hc nch ho (I.freeC x c e)
      exact ⟨_, q, hd⟩
    · exact ⟨o, keep c o (I.cne x c e) hc nch ho (I.freeC x c e), hd⟩
  refine ⟨I.ok, I.os, hg, ⟨fun b o e n hb hx => ?_, fun b o e n hb hx => ?_, fun b o e n hx => ?_, fun b o e hx => ?_, fun b xs e => tups b xs (I.base.tups b xs e), fun b o xs e => frzs b o xs (I.base.frzs b o xs e), fun b ps e => ?_⟩, ?_, fun x c e => ?_, ?_, fun x c e => ?_, fun p hp => ?_, hok, I.len⟩
  · exact keep b o (neL b o e) hb (neC b o e hx) (I.base.keep b o e n hb hx) (I.base.free b o e n hx)
  · obtain ⟨sl, e1⟩ := I.base.slot b o e n hb hx
    obtain ⟨sl', e2⟩ := slot b _ (neL b o e) hb (neC b o e hx) e1 (I.base.free b o e n hx)
    exact ⟨sl', e2⟩
  · obtain ⟨o', e1⟩ := I.base.there b o e hx
    exact free b o' (neC b o e hx) e1 (I.base.free b o e n hx)
  · obtain ⟨o', e1⟩ := I.base.there b o e hx
    exact there b o' (neC b o e hx) e1
  · obtain ⟨m1, e1⟩ := I.base.tbls b ps e
    obtain ⟨m2, e2⟩ := tbls b _ e1
    exact ⟨m1 ++ m2, by rw [e2, Array.append_assoc]⟩
  · obtain ⟨m, hn, hl⟩ := I.loc
    refine ⟨m, ns m hn, fun i x v e1 e2 e3 => ?_⟩
    obtain ⟨u, r, l⟩ := hl i x v e1 e2 e3
    refine ⟨u, r, ?_⟩
    rcases l with l | ⟨k, c, e, z⟩
    · exact .inl l
    · exact .inr ⟨k, c, e, cellK x c e _ z⟩
  · obtain ⟨v, z⟩ := I.cell x c e
    exact ⟨v, cellK x c e v z⟩
  · obtain ⟨m, ⟨o, _, _, ho, _⟩, _⟩ := I.loc
    exact free _ o (fun z => (hch _ z).2.1 rfl) ho I.free
  · obtain ⟨v, o, ho, hd⟩ := I.cell x c e
    exact free c o (fun z => (hch c z).2.2.1 x c e rfl) ho (I.freeC x c e)
  · obtain ⟨e, n, ne, nf, d⟩ := I.pin p hp
    have nch : p.1 ∉ ch := fun z => (hch p.1 z).2.2.2 p hp rfl
    exact ⟨keep p.1 p.2 ne nf nch e n, free p.1 p.2 nch e n, ne, nf, d⟩
theorem Inv.un {t' : Nat} (I : Inv X pins σ H s) (u : Un X.fs [] H H' s.heap h') (hok : HOk X.prog X.w H' h') : Inv X pins σ H' { s with heap := h', toks := t' } := by
  obtain ⟨m, ⟨o, es, ep, ho, r⟩, _⟩ := id I.loc
  obtain ⟨sl, hL⟩ := u.any ho I.free (by simp)
  exact I.step (g' := s.gens) (d' := s.drawn) (ch := []) (fun _ z => nomatch z) (fun b o _ hb _ e n => u.keep b o e n hb (by simp)) (fun b o _ hb _ e n => u.slot b o e n hb (by simp)) (fun b o _ e n => u.free b o e n (by simp)) (fun b o _ e => u.there b o e (by simp)) u.tups u.frzs u.tbls (fun m' hm => by
    obtain ⟨o', es', ep', ho', r'⟩ := hm
    rw [ho] at ho'; cases ho'
    exact ⟨_, es', ep', hL, r'⟩) hok I.bare
theorem Inv.call {g' : Array GenState} {t' : Nat} {d' : Drawn} {ch : List Addr} (I : Inv X pins σ H s) (u : Un (frs X.stack) ch H H' s.heap h') (hok : HOk X.prog X.w H' h') (hg : AllBare g')
    (hch : ∀ b ∈ ch, (b ∈ X.ex ∨ X.s₀.heap.objs.size ≤ b) ∧ b ≠ X.env.locals ∧ (∀ x c, X.env.cells.lookup x = some c → c ≠ b) ∧ ∀ p ∈ X.pn ++ pins, p.1 ≠ b) :
    Inv X pins σ H' { s with heap := h', gens := g', drawn := d', toks := t' } := by
  obtain ⟨m, ⟨o, es, ep, ho, r⟩, _⟩ := id I.loc
  obtain ⟨sl, hL⟩ := u.any ho I.free fun z => (hch _ z).2.1 rfl
  exact I.step (ch := ch) hch (fun b o hL hb hc e n => u.keep b o e n (fun z => (List.mem_cons.mp (I.stkSub b z)).elim hL hb) hc) (fun b o _ _ hc e n => u.any e n hc) (fun b o hc e n => u.free b o e n hc) (fun b o hc e => u.there b o e hc) u.tups u.frzs u.tbls (fun m' hm => by
    obtain ⟨o', es', ep', ho', r'⟩ := hm
    rw [ho] at ho'; cases ho'
    exact ⟨_, es', ep', hL, r'⟩) hok hg
theorem Inv.turned {t' : Nat} {it : Addr} (I : Inv X pins σ H s) (k : ∀ b o, b ≠ it → s.heap.get? b = some o → h'.get? b = some o) (hn : H it = none) (hL : it ≠ X.env.locals)
    (h1 : it ∈ X.ex ∨ X.s₀.heap.objs.size ≤ it) (h2 : ∀ x c, X.env.cells.lookup x = some c → c ≠ it) (h3 : ∀ p ∈ X.pn ++ pins, p.1 ≠ it) : Inv X pins σ H { s with heap := h', toks := t' } := by
  have nit : ∀ b u, H b = some u → b ≠ it := fun b u e z => by rw [z, hn] at e; cases e
  refine I.step (g' := s.gens) (d' := s.drawn) (ch := [it]) (fun b hb => ?_) (fun b o _ _ hc e _ => k b o (fun z => hc (by simp [z])) e) (fun b o _ _ hc e _ => ⟨o.slots, k b o (fun z => hc (by simp [z])) e⟩) (fun _ _ _ _ n => n)
    (fun b o hc e => ⟨o, k b o (fun z => hc (by simp [z])) e⟩) (fun _ _ e => e) (fun _ _ _ e => e) (fun b ps e => ⟨#[], by rw [e]; simp⟩) (fun m hm => ?_) (fun b u e => ?_) I.bare
  · have e : b = it := by simpa using hb
    subst e
    exact ⟨h1, hL, h2, h3⟩
  · obtain ⟨o, es, ep, ho, r⟩ := hm
    exact ⟨o, es, ep, k _ o (Ne.symm hL) ho, r⟩
  · refine (I.hok b u e).stay (fun c v hc q => k c v ?_ q) (fun _ q => q) fun _ _ q => q
    rcases hc with z | z
    · rw [z]; exact nit b u e
    · exact nit c _ z
theorem Inv.tok (I : Inv X pins σ H s) (t : Nat) : Inv X pins σ H { s with toks := t } := I.un (h' := s.heap) (t' := t) Un.refl I.hok
theorem Inv.kept {t' : Nat} (I : Inv X pins σ H s) (k : ∀ b u, s.heap.get? b = some u → h'.get? b = some u) : Inv X pins σ H { s with heap := h', toks := t' } := I.un (Un.kept k) (I.hok.kept k)
theorem Inv.laid {a : Addr} {o : HO} {t' : Nat} (I : Inv X pins σ H s) (k : ∀ b u, s.heap.get? b = some u → h'.get? b = some u) (hp : s.heap.objs.size ≤ a) (new : ObjOk X.prog X.w (upd H a o) h' a o) :
    Inv X pins σ (upd H a o) { s with heap := h', toks := t' } := I.un (Un.laid k hp (I.hok.fresh hp)) (I.hok.laid k hp new)
theorem Inv.write {x e : Addr} {o : HO} {t' : Nat} (I : Inv X pins σ H s) (mu : Mut (H x)) (he : e = x ∨ H e = some (.own x)) (k : ∀ b u, b ≠ e → s.heap.get? b = some u → h'.get? b = some u) (heo : ∃ u, h'.get? e = some u)
    (new : ObjOk X.prog X.w (upd H x o) h' x o) : Inv X pins σ (upd H x o) { s with heap := h', toks := t' } := I.un (Un.write mu he k heo) (I.hok.write mu he k heo new)
theorem Inv.pins_of {pins' : List (Addr × Obj)} (I : Inv X pins σ H s) (h : ∀ p ∈ pins', s.heap.get? p.1 = some p.2 ∧ H p.1 = none ∧ p.1 ≠ X.env.locals ∧ p.1 ∉ X.fs ∧ ∀ v, p.2.data ≠ .cell v) : Inv X pins' σ H s :=
  ⟨I.ok, I.os, I.bare, I.base, I.loc, I.cell, I.free, I.freeC, fun p hp => (List.mem_append.mp hp).elim (fun z => I.pin p (List.mem_append_left _ z)) (h p), I.hok, I.len⟩

theorem nodup_ix {N : List Str} (hN : N.Nodup) {i j : Nat} {x : Str} (a : N[i]? = some x) (b : N[j]? = some x) : i = j := by
  obtain ⟨h1, e1⟩ := List.getElem?_eq_some_iff.mp a
  obtain ⟨h2, e2⟩ := List.getElem?_eq_some_iff.mp b
  exact (List.getElem_inj hN).mp (e1.trans e2.symm)

theorem store_ok2 {M : Model} {A : Around} {E : Value → Shared → Prop} {i : Nat} {x : Str} {v : V} {u : Value} {Q : Unit → Shared → Prop} (I : Inv X pins σ H s) (hN : X.N.Nodup) (hi : X.N[i]? = some x) (hx : Loc X.env.scope x) (r : RelV v u)
    (h : ∀ s', Inv X pins (σ.set i (some v)) H s' → (∃ a, Heap.SameBut a s.heap s'.heap ∧ (a = X.env.locals ∨ X.env.cells.lookup x = some a)) → Q () s') (hf : X.fn x = true ∨ X.env.scope.names.lookup x = some .local := by first | exact .inl rfl | exact .inr rfl | assumption) : wpAny M A (storeName X.env x u) Q E s := by
  obtain ⟨m, hn, hl⟩ := id I.loc
  have hcls : (X.env.scope.kind == .class || (X.env.scope.kind == .module && X.env.locals != X.env.globals)) = false := by rw [I.ok.kind]; rfl
  have hiσ : i < σ.length := by rw [I.len]; exact (List.getElem?_eq_some_iff.mp hi).1
  have cne := I.cne
  have tracked : ∀ {a : Addr} {h' : Heap}, (∃ o, s.heap.get? a = some o ∧ H a = none) → Heap.SameBut a s.heap h' → HOk X.prog X.w H h' := fun {a h'} ha hs b ob e => by
    obtain ⟨_, _, hfree⟩ := ha
    refine (I.hok b ob e).stay (fun c w' hc q => (hs.2 c ?_).trans q) (fun _ q => q) fun _ _ q => q
    rintro rfl
    rcases hc with rfl | hc
    · rw [hfree] at e; cases e
    · rw [hfree] at hc; cases hc
  rcases hx with hk | hk
  · refine wpAny_storeName_local hk hn (fun h' hn' hs => ?_) hcls
    obtain ⟨oL, _, _, hoL, _⟩ := id hn
    refine h _ ⟨I.ok, I.os, I.bare, ⟨fun b o e n hb hx => ?_, fun b o e n hb hx => ?_, I.base.free, fun b o e hx => ?_, I.base.tups, I.base.frzs, I.base.tbls⟩, ⟨_, hn', fun j y v' e1 e2 e3 => ?_⟩, fun y c e => ?_, I.free, I.freeC, fun p hp => ?_, tracked ⟨oL, hoL, I.free⟩ hs, by simpa using I.len⟩ ⟨_, hs, .inl rfl⟩
    · exact (hs.2 b (Nat.ne_of_lt (Nat.lt_of_lt_of_le (Heap.lt_size e) I.ok.above))).trans (I.base.keep b o e n hb hx)
    · obtain ⟨sl, e1⟩ := I.base.slot b o e n hb hx
      exact ⟨sl, (hs.2 b (Nat.ne_of_lt (Nat.lt_of_lt_of_le (Heap.lt_size e) I.ok.above))).trans e1⟩
    · obtain ⟨o', e1⟩ := I.base.there b o e hx
      exact ⟨o', (hs.2 b (Nat.ne_of_lt (Nat.lt_of_lt_of_le (Heap.lt_size e) I.ok.above))).trans e1⟩
    · by_cases hj : j = i
      · subst hj
        rw [hi] at e1; cases e1
        rw [List.getElem?_set_self hiσ] at e2
        cases e2
        exact ⟨u, r, .inl ⟨hk, by simp⟩⟩
      · rw [List.getElem?_set_ne (Ne.symm hj)] at e2
        obtain ⟨u', r', q⟩ := hl j y v' e1 e2 e3
        refine ⟨u', r', ?_⟩
        rcases q with ⟨k, e⟩ | ⟨k, c, e, z⟩
        · refine .inl ⟨k, ?_⟩
          have : y ≠ x := fun e => hj (nodup_ix hN e1 (e ▸ hi))
          simp [this, e]
        · exact .inr ⟨k, c, e, z.sameBut hs (cne y c e)⟩
    · obtain ⟨w', z⟩ := I.cell y c e
      exact ⟨w', z.sameBut hs (cne y c e)⟩
    · obtain ⟨e, n, ne, nf, d⟩ := I.pin p hp
      exact ⟨(hs.2 p.1 ne).trans e, n, ne, nf, d⟩
  · have hfn : X.fn x = true := by
      rcases hf with z | z
      · exact z
      · rw [z] at hk; cases hk
    obtain ⟨c, hc⟩ := I.ok.has x (.inl hk)
    obtain ⟨w', z⟩ := I.cell x c hc
    refine wpAny_storeName_cell I.ok.kind hk hc z (fun h' hc' hs => ?_)
    obtain ⟨oc, hoc, hocd⟩ := id z
    refine h { s with heap := h' } ⟨I.ok, I.os, I.bare, ⟨fun b o e n hb hx => ?_, fun b o e n hb hx => ?_, I.base.free, fun b o e hx => ?_, I.base.tups, I.base.frzs, I.base.tbls⟩, ⟨m, hn.sameBut hs (Ne.symm (cne x c hc)), fun j y v' e1 e2 e3 => ?_⟩, fun y c' e => ?_, I.free, I.freeC, fun p hp => ?_, tracked ⟨oc, hoc, I.freeC x c hc⟩ hs, by simpa using I.len⟩ ⟨c, hs, .inr hc⟩
    · exact (hs.2 b (Nat.ne_of_lt (Nat.lt_of_lt_of_le (Heap.lt_size e) (I.ok.cab x c hfn hc)))).trans (I.base.keep b o e n hb hx)
    · obtain ⟨sl, e1⟩ := I.base.slot b o e n hb hx
      exact ⟨sl, (hs.2 b (Nat.ne_of_lt (Nat.lt_of_lt_of_le (Heap.lt_size e) (I.ok.cab x c hfn hc)))).trans e1⟩
    · obtain ⟨o', e1⟩ := I.base.there b o e hx
      exact ⟨o', (hs.2 b (Nat.ne_of_lt (Nat.lt_of_lt_of_le (Heap.lt_size e) (I.ok.cab x c hfn hc)))).trans e1⟩
    · by_cases hj : j = i
      · subst hj
        rw [hi] at e1; cases e1
        rw [List.getElem?_set_self hiσ] at e2
        cases e2
        exact ⟨u, r, .inr ⟨.inl hk, c, hc, hc'⟩⟩
      · rw [List.getElem?_set_ne (Ne.symm hj)] at e2
        obtain ⟨u', r', q⟩ := hl j y v' e1 e2 e3
        refine ⟨u', r', ?_⟩
        rcases q with q | ⟨k, c', e, z'⟩
        · exact .inl q
        · refine .inr ⟨k, c', e, z'.sameBut hs ?_⟩
          rintro rfl
          exact hj (nodup_ix hN e1 (I.ok.inj _ _ _ e hc ▸ hi))
    · by_cases hcc : c' = c
      · subst hcc; exact ⟨_, hc'⟩
      · obtain ⟨w2, z2⟩ := I.cell y c' e
        exact ⟨w2, z2.sameBut hs hcc⟩
    · obtain ⟨e, n, ne, nf, d⟩ := I.pin p hp
      refine ⟨(hs.2 p.1 ?_).trans e, n, ne, nf, d⟩
      intro q
      rw [q, hoc] at e
      have q' : oc = p.2 := Option.some.inj e
      exact d w' (by rw [← q']; exact hocd)
theorem store_ok {M : Model} {A : Around} {E : Value → Shared → Prop} {i : Nat} {x : Str} {v : V} {u : Value} {Q : Unit → Shared → Prop} (I : Inv X pins σ H s) (hN : X.N.Nodup) (hi : X.N[i]? = some x) (hx : Loc X.env.scope x) (r : RelV v u)
    (h : ∀ s', Inv X pins (σ.set i (some v)) H s' → Q () s') (hf : X.fn x = true ∨ X.env.scope.names.lookup x = some .local := by first | exact .inl rfl | exact .inr rfl | assumption) : wpAny M A (storeName X.env x u) Q E s :=
  store_ok2 I hN hi hx r (fun s' I' _ => h s' I') hf
theorem Inv.call' {s' : Shared} {ch : List Addr} (I : Inv X pins σ H s) (ho : s'.os = s.os) (u : Un (frs X.stack) ch H H' s.heap s'.heap) (hok : HOk X.prog X.w H' s'.heap) (hg : AllBare s'.gens)
    (hch : ∀ b ∈ ch, (b ∈ X.ex ∨ X.s₀.heap.objs.size ≤ b) ∧ b ≠ X.env.locals ∧ (∀ x c, X.env.cells.lookup x = some c → c ≠ b) ∧ ∀ p ∈ X.pn ++ pins, p.1 ≠ b) : Inv X pins σ H' s' := by
  obtain ⟨h', g', d', t', o'⟩ := s'
  have e : o' = s.os := ho
  subst e
  exact I.call (g' := g') (t' := t') (d' := d') u hok hg hch
end

abbrev XK := Value → Option Addr → Hp → Prop
abbrev St := List (Option V)
abbrev VK := V → Hp → Prop
abbrev TE := St → Hp → VK → Prop
abbrev TT := St → Hp → (Bool → Hp → Prop) → Prop
abbrev TA := St → Hp → (List V → Hp → Prop) → Prop
structure Ends where
  nx : St → Hp → Prop
  rt : VK
  bk : St → Hp → Prop := fun _ _ => False
  ct : St → Hp → Prop := fun _ _ => False
abbrev TS := Ends → St → Hp → Prop

def EP (X : Cx) (pins : List (Addr × Obj)) (σ : St) (Q : VK) (u : Value) (s' : Shared) : Prop := ∃ v H', Inv X pins σ H' s' ∧ RelV v u ∧ Q v H'
def TP (X : Cx) (pins : List (Addr × Obj)) (σ : St) (Q : Bool → Hp → Prop) (b : Bool) (s' : Shared) : Prop := ∃ H', Inv X pins σ H' s' ∧ Q b H'
def AP (X : Cx) (pins : List (Addr × Obj)) (σ : St) (Q : List V → Hp → Prop) (us : List Value) (s' : Shared) : Prop := ∃ vs H', Inv X pins σ H' s' ∧ Vals vs us ∧ Q vs H'
def SP (X : Cx) (pins : List (Addr × Obj)) (D : Ends) (f : Flow) (s' : Shared) : Prop :=
  match f with
  | .next => ∃ σ' H', Inv X pins σ' H' s' ∧ D.nx σ' H'
  | .brk => ∃ σ' H', Inv X pins σ' H' s' ∧ D.bk σ' H'
  | .cont => ∃ σ' H', Inv X pins σ' H' s' ∧ D.ct σ' H'
  | .ret u => ∃ v σ' H', Inv X pins σ' H' s' ∧ RelV v u ∧ D.rt v H'

def PE (X : Cx) (e : Expr) (t : TE) : Prop :=
  ∀ (pins : List (Addr × Obj)) (s : Shared) (σ : St) (H : Hp) (Q : VK), Inv X pins σ H s → t σ H Q → wpAny (model X.prog X.w) X.A (eval e X.env) (EP X pins σ Q) X.xe s
def PT (X : Cx) (e : Expr) (t : TT) : Prop :=
  ∀ (pins : List (Addr × Obj)) (s : Shared) (σ : St) (H : Hp) (Q : Bool → Hp → Prop), Inv X pins σ H s → t σ H Q → wpAny (model X.prog X.w) X.A (isTrue e X.env (eval e X.env)) (TP X pins σ Q) X.xe s
def PW (X : Cx) (e : Expr) (t : TT) : Prop :=
  ∀ (whole : Sem Value) (pins : List (Addr × Obj)) (s : Shared) (σ : St) (H : Hp) (Q : Bool → Hp → Prop), Inv X pins σ H s → t σ H Q → wpAny (model X.prog X.w) X.A (isTrue e X.env whole) (TP X pins σ Q) X.xe s
theorem PW.pt {X : Cx} {e : Expr} {t : TT} (h : PW X e t) : PT X e t := h _
def PA (X : Cx) (es : List Expr) (t : TA) : Prop :=
  ∀ (pos : Pos) (pins : List (Addr × Obj)) (s : Shared) (σ : St) (H : Hp) (Q : List V → Hp → Prop), Inv X pins σ H s → t σ H Q → wpAny (model X.prog X.w) X.A (spliced (backTo pos (starEach es X.env))) (AP X pins σ Q) X.xe s
def PS (X : Cx) (st : Stmt) (t : TS) : Prop :=
  ∀ (pins : List (Addr × Obj)) (s : Shared) (σ : St) (H : Hp) (D : Ends), Inv X pins σ H s → t D σ H → wpAny (model X.prog X.w) X.A (exec st X.env) (SP X pins D) X.xe s
def PSs (X : Cx) (st : List Stmt) (t : TS) : Prop :=
  ∀ (pins : List (Addr × Obj)) (s : Shared) (σ : St) (H : Hp) (D : Ends), Inv X pins σ H s → t D σ H → wpAny (model X.prog X.w) X.A (execs st X.env) (SP X pins D) X.xe s
theorem thn {α : Type} {t : Sem α} {Q Q' : α → Shared → Prop} {M : Model} {A : Around} {E : Value → Shared → Prop} {s : Shared} (h : wpAny M A t Q E s) (hQ : ∀ a s, Q a s → Q' a s) : wpAny M A t Q' E s := wpAny_mono h hQ fun _ _ x => x
end L2

namespace L2
open PySem PySem.Spec PyProof.Rows
section
variable {X : Cx}

theorem bin {a b : Expr} {ta tb : TE} (ha : PE X a ta) (hb : PE X b tb) {pins : List (Addr × Obj)} {s : Shared} {σ : St} {H : Hp} {R : V → V → Hp → Prop} (I : Inv X pins σ H s) (h : ta σ H fun x H1 => tb σ H1 fun y H2 => R x y H2)
    {α : Type} {Q : α → Shared → Prop} {f : Value → Value → Sem α}
    (hf : ∀ v u s2 x y H2, Inv X pins σ H2 s2 → RelV x v → RelV y u → R x y H2 → wpAny (model X.prog X.w) X.A (f v u) Q X.xe s2) :
    wpAny (model X.prog X.w) X.A (eval a X.env) (fun v s₁ => wpAny (model X.prog X.w) X.A (eval b X.env) (fun u s₂ => wpAny (model X.prog X.w) X.A (f v u) Q X.xe s₂) X.xe s₁) X.xe s := by
  refine thn (ha pins s σ H _ I h) fun v s1 ⟨x, H1, I1, r1, q1⟩ => ?_
  refine thn (hb pins s1 σ H1 _ I1 q1) fun u s2 ⟨y, H2, I2, r2, q2⟩ => ?_
  exact hf v u s2 x y H2 I2 r1 r2 q2

def tVar (i : Nat) : TE := fun σ H Q => ∃ v, σ[i]? = some (some v) ∧ Q v H
def tC (v : V) : TE := fun _ H Q => Q v H
theorem pe_var {i : Nat} {x : Str} {pos : Pos} (hN : X.N[i]? = some x) (hv : Vis X.env.scope x) (hd : (x == ("__debug__" : Str)) = false := by decide) (hcd : (x == ("__classdict__" : Str)) = false := by decide) : PE X (.Name x pos) (tVar i) := by
  intro pins s σ H Q I h
  obtain ⟨v, e, h⟩ := h
  obtain ⟨m, hn, hl⟩ := I.loc
  obtain ⟨u, r, l⟩ := hl i x v hN e hv
  have fin : EP X pins σ Q u s := ⟨v, H, I, r, h⟩
  rcases l with ⟨hk, hm⟩ | ⟨hk, c, hc, hcell⟩
  · exact wpAny_Name (wpAny_loadName_local I.ok.kind hk hn hm fin) hd
  · rcases hk with hk | hk
    · exact wpAny_Name (wpAny_loadName_cell I.ok.kind hk hc hcell fin) hd
    · exact wpAny_Name (wpAny_loadName_free I.ok.kind hk hc hcell fin hcd) hd
theorem pe_int {i j pos} : PE X (.Constant (.int i) j pos) (tC (.int i)) := fun _ _ _ H _ I h => wpAny_Constant_int ⟨.int i, H, I.tok _, ⟨_, rfl⟩, h⟩
theorem pe_bl {b j pos} : PE X (.Constant (.bool b) j pos) (tC (.bl b)) := fun _ _ _ H _ I h => Constant_bool ⟨.bl b, H, I, rfl, h⟩
theorem pe_non {j pos} : PE X (.Constant .none j pos) (tC .non) := fun _ _ _ H _ I h => Constant_none ⟨.non, H, I, rfl, h⟩
theorem pe_str {x j pos} : PE X (.Constant (.str x) j pos) (tC (.str x)) := fun _ _ _ H _ I h => Calls.Constant_str ⟨.str x, H, I.tok _, ⟨_, rfl⟩, h⟩

def Gl (X : Cx) (x : Str) : Prop := X.env.kindOf x = some .globalImplicit
theorem ld_glob {E : Value → Shared → Prop} {pins : List (Addr × Obj)} {s : Shared} {σ : St} {H : Hp} {x : Str} {u : Value} {pos : Pos} {Q : Value → Shared → Prop} (I : Inv X pins σ H s) (hg : Gl X x) (hm : X.mg x = some u) (h : Q u s)
    (hd : (x == ("__debug__" : Str)) = false := by decide) : wpAny (model X.prog X.w) X.A (eval (.Name x pos) X.env) Q E s :=
  Calls.Name_function_global I.ok.kind hg (Calls.loadGlobal_global (by rw [I.ok.glob]; exact I.mod.glob.keeps I.bk) hm h) hd
theorem ld_blt {E : Value → Shared → Prop} {pins : List (Addr × Obj)} {s : Shared} {σ : St} {H : Hp} {x : Str} {u : Value} {pos : Pos} {Q : Value → Shared → Prop} (I : Inv X pins σ H s) (hg : Gl X x) (hm : X.mg x = none) (hv : bootBuiltins x = some u) (h : Q u s)
    (hn : x ≠ "__name__" := by decide) (hd : (x == ("__debug__" : Str)) = false := by decide) : wpAny (model X.prog X.w) X.A (eval (.Name x pos) X.env) Q E s := by
  obtain ⟨mb, h1, h2⟩ := I.mod.blt
  exact Calls.Name_function_global I.ok.kind hg (Calls.loadGlobal_builtin (by rw [I.ok.glob]; exact I.mod.glob.keeps I.bk) hm (by rw [I.ok.blt]; exact h1.keeps I.bk) ((h2 x hn).trans hv) h) hd
theorem pe_glob {x : Str} {v : V} {u : Value} {pos : Pos} (hg : Gl X x) (hm : X.mg x = some u) (r : RelV v u) (hd : (x == ("__debug__" : Str)) = false := by decide) : PE X (.Name x pos) (tC v) :=
  fun _ _ _ H _ I h => ld_glob I hg hm ⟨v, H, I, r, h⟩ hd
theorem pe_bltn {x : Str} {v : V} {u : Value} {pos : Pos} (hg : Gl X x) (hm : X.mg x = none) (hv : bootBuiltins x = some u) (r : RelV v u) (hn : x ≠ "__name__" := by decide) (hd : (x == ("__debug__" : Str)) = false := by decide) : PE X (.Name x pos) (tC v) :=
  fun _ _ _ H _ I h => ld_blt I hg hm hv ⟨v, H, I, r, h⟩ hn hd

variable {a b : Expr} {ta tb : TE} {pos : Pos}
def tB (t : TE) : TT := fun σ H Q => t σ H fun x H1 => ∃ c, x = .bl c ∧ Q c H1
theorem pt_val {e : Expr} {t : TE} (h : PE X e t) (he : ∀ whole, isTrue e X.env whole = (do let v ← whole; standAt e.pos; holding [v] (truthy v)) := by intro _; rfl) : PT X e (tB t) := by
  intro pins s σ H Q I hw
  refine isTrue_plain (thn (h pins s σ H _ I hw) fun v s1 ⟨x, H1, I1, r1, q1⟩ => ?_) (he _)
  obtain ⟨d, rfl, q⟩ := q1
  cases r1
  exact wpAny_truthy_bool ⟨H1, I1, q⟩

variable {tA tB' : TT} {rest : List Expr}
def tAnd (t u : TT) : TT := fun σ H Q => t σ H fun c H1 => if c = true then u σ H1 Q else Q false H1
def tOr (t u : TT) : TT := fun σ H Q => t σ H fun c H1 => if c = true then Q true H1 else u σ H1 Q
def tNot (t : TT) : TT := fun σ H Q => t σ H fun c H1 => Q (!c) H1
theorem pw_and1 (ha : PT X a tA) : PW X (.BoolOp .And [a] pos) tA := by
  intro wh pins s σ H Q I h
  refine isTrue_and (thn (ha pins s σ H Q I h) fun c s1 e => ?_)
  cases c with
  | true => exact isTrue_and_nil e
  | false => exact e
theorem pw_or1 (ha : PT X a tA) : PW X (.BoolOp .Or [a] pos) tA := by
  intro wh pins s σ H Q I h
  refine isTrue_or (thn (ha pins s σ H Q I h) fun c s1 e => ?_)
  cases c with
  | false => exact isTrue_or_nil e
  | true => exact e
theorem pw_and (ha : PT X a tA) (hb : PW X (.BoolOp .And (b :: rest) pos) tB') : PW X (.BoolOp .And (a :: b :: rest) pos) (tAnd tA tB') := by
  intro wh pins s σ H Q I h
  refine isTrue_and (thn (ha pins s σ H _ I h) fun c s1 ⟨H1, I1, q1⟩ => ?_)
  cases c with
  | true => exact hb wh pins s1 σ H1 Q I1 q1
  | false => exact ⟨H1, I1, q1⟩
theorem pw_or (ha : PT X a tA) (hb : PW X (.BoolOp .Or (b :: rest) pos) tB') : PW X (.BoolOp .Or (a :: b :: rest) pos) (tOr tA tB') := by
  intro wh pins s σ H Q I h
  refine isTrue_or (thn (ha pins s σ H _ I h) fun c s1 ⟨H1, I1, q1⟩ => ?_)
  cases c with
  | true => exact ⟨H1, I1, q1⟩
  | false => exact hb wh pins s1 σ H1 Q I1 q1
theorem pt_not (ha : PT X a tA) : PT X (.UnaryOp .Not a pos) (tNot tA) := by
  intro pins s σ H Q I h
  exact isTrue_not (ha pins s σ H (fun c H1 => Q (!c) H1) I h)
def tAndV (ta tb : TE) : TE := fun σ H Q => ta σ H fun x H1 => ∃ c, x = .bl c ∧ if c = true then tb σ H1 Q else Q (.bl false) H1
def tOrV (ta tb : TE) : TE := fun σ H Q => ta σ H fun x H1 => ∃ c, x = .bl c ∧ if c = true then Q (.bl true) H1 else tb σ H1 Q
def tNotV (ta : TE) : TE := fun σ H Q => ta σ H fun x H1 => ∃ c, x = .bl c ∧ Q (.bl (!c)) H1
theorem pe_one {op} {t : TE} (h : PE X a t) : PE X (.BoolOp op [a] pos) t := fun pins s σ H Q I hw => BoolOp_one (h pins s σ H Q I hw)
theorem pe_and (ha : PE X a ta) (hb : PE X (.BoolOp .And (b :: rest) pos) tb) : PE X (.BoolOp .And (a :: b :: rest) pos) (tAndV ta tb) := by
  intro pins s σ H Q I h
  refine BoolOp_and (thn (ha pins s σ H _ I h) fun v s1 ⟨x, H1, I1, r1, q1⟩ => ?_)
  obtain ⟨c, rfl, q1⟩ := q1
  cases r1
  refine wpAny_truthy_bool ?_
  cases c with
  | true => exact hb pins s1 σ H1 Q I1 q1
  | false => exact ⟨.bl false, H1, I1, rfl, q1⟩
theorem pe_or (ha : PE X a ta) (hb : PE X (.BoolOp .Or (b :: rest) pos) tb) : PE X (.BoolOp .Or (a :: b :: rest) pos) (tOrV ta tb) := by
  intro pins s σ H Q I h
  refine BoolOp_or (thn (ha pins s σ H _ I h) fun v s1 ⟨x, H1, I1, r1, q1⟩ => ?_)
  obtain ⟨c, rfl, q1⟩ := q1
  cases r1
  refine wpAny_truthy_bool ?_
  cases c with
  | false => exact hb pins s1 σ H1 Q I1 q1
  | true => exact ⟨.bl true, H1, I1, rfl, q1⟩
theorem pe_not (ha : PE X a ta) : PE X (.UnaryOp .Not a pos) (tNotV ta) := by
  intro pins s σ H Q I h
  refine UnaryOp_ (thn (ha pins s σ H _ I h) fun v s1 ⟨x, H1, I1, r1, q1⟩ => ?_)
  obtain ⟨c, rfl, q1⟩ := q1
  cases r1
  exact not_of (wpAny_truthy_bool ⟨.bl (!c), H1, I1, rfl, q1⟩)
def tIf (t : TT) (ta tb : TE) : TE := fun σ H Q => t σ H fun c H1 => if c = true then ta σ H1 Q else tb σ H1 Q
theorem pe_ifExp {c : Expr} (hc : PT X c tA) (ha : PE X a ta) (hb : PE X b tb) : PE X (.IfExp c a b pos) (tIf tA ta tb) := by
  intro pins s σ H Q I h
  refine wpAny_IfExp (thn (hc pins s σ H _ I h) fun d s1 ⟨H1, I1, q1⟩ => ?_)
  cases d with
  | true => exact ha pins s1 σ H1 Q I1 q1
  | false => exact hb pins s1 σ H1 Q I1 q1
end
end L2

namespace L2
open PySem PySem.Spec PyProof.Rows

def SqL (K : PySem.W.Frag) (H : Hp) (a : Addr) (xs : List V) : Prop :=
  Rd H a (.lst xs) ∨
    ∃ (o : Obj) (its : Array Value) (n : Nat), K.lookup a = some o ∧ o.cls = .type "list" ∧ o.dict = none ∧ o.data = .seq its n ∧ its.size ≤ sizeLine ∧ Vals xs its.toList
def SqT (K : PySem.W.Frag) (H : Hp) (a : Addr) (xs : List V) : Prop :=
  Rd H a (.tup xs) ∨
    ∃ (o : Obj) (its : Array Value) (n : Nat), K.lookup a = some o ∧ o.cls = .type "tuple" ∧ o.data = .seq its n ∧ its.size ≤ sizeLine ∧ Vals xs its.toList
def absV : Value → Option V
  | .none => some .non
  | .bool b => some (.bl b)
  | .int i _ => some (.int i)
  | .str x _ => some (.str x)
  | .bytes b _ => some (.byt b)
  | .float b _ => some (.flt b)
  | .ref a => some (.ref a)
  | .type n => some (.ty n)
  | _ => none
theorem RelV.abs {x : V} {u : Value} (r : RelV x u) : absV u = some x := by
  cases x with
  | non => cases r; rfl
  | bl _ => cases r; rfl
  | int _ => obtain ⟨t, rfl⟩ := r; rfl
  | str _ => obtain ⟨t, rfl⟩ := r; rfl
  | byt _ => obtain ⟨t, rfl⟩ := r; rfl
  | flt _ => obtain ⟨t, rfl⟩ := r; rfl
  | ref _ => cases r; rfl
  | ty _ => cases r; rfl
theorem RelV.inj {x y : V} {u : Value} (r : RelV x u) (q : RelV y u) : x = y := Option.some.inj (r.abs.symm.trans q.abs)
theorem Vals.inj : ∀ {xs ys : List V} {us : List Value}, Vals xs us → Vals ys us → xs = ys
  | _, _, _, .nil, .nil => rfl
  | _, _, _, .cons r t, .cons r' t' => by rw [r.inj r', Vals.inj t t']
section
variable {X : Cx} {pins : List (Addr × Obj)} {σ : St} {H : Hp} {s : Shared} {a : Addr} {xs ys : List V}
theorem SqL.of {K : PySem.W.Frag} (h : H a = some (.lst xs)) : SqL K H a xs := .inl (.inl h)
theorem SqT.of {K : PySem.W.Frag} (h : H a = some (.tup xs)) : SqT K H a xs := .inl (.inl h)
theorem Inv.list (I : Inv X pins σ H s) (h : SqL X.K H a xs) : ∃ its : List Value, Vals xs its ∧ PlainL s.heap a its.toArray ∧ xs.length ≤ sizeLine := by
  rcases h with h | ⟨o, its, n, hk, hc, hd, hs, hz, r⟩
  · obtain ⟨z, its, n, r, e⟩ := h.ok I.hok
    exact ⟨its, r, ⟨_, n, e, rfl, rfl, rfl⟩, z⟩
  · refine ⟨its.toList, r, ⟨o, n, I.kIn a o hk, hc, hd, by simpa using hs⟩, ?_⟩
    have e := r.length
    simp only [Array.length_toList] at e
    omega
theorem Inv.tuple (I : Inv X pins σ H s) (h : SqT X.K H a xs) : ∃ its : List Value, Vals xs its ∧ IsTup s.heap a its.toArray ∧ xs.length ≤ sizeLine := by
  rcases h with h | ⟨o, its, n, hk, hc, hs, hz, r⟩
  · obtain ⟨z, its, r, p⟩ := h.ok I.hok
    exact ⟨its, r, p, z⟩
  · refine ⟨its.toList, r, ⟨o, I.kIn a o hk, hc, n, by simpa using hs⟩, ?_⟩
    have e := r.length
    simp only [Array.length_toList] at e
    omega
theorem Inv.list_inj (I : Inv X pins σ H s) (h : SqL X.K H a xs) (h' : SqL X.K H a ys) : xs = ys := by
  obtain ⟨its, r, ⟨o, n, e, _, _, d⟩, _⟩ := I.list h
  obtain ⟨its', r', ⟨o', n', e', _, _, d'⟩, _⟩ := I.list h'
  rw [e] at e'; cases e'
  rw [d] at d'
  injection d' with d1 _
  have : its = its' := by simpa using congrArg Array.toList d1
  subst this
  exact r.inj r'
theorem Inv.tuple_inj (I : Inv X pins σ H s) (h : SqT X.K H a xs) (h' : SqT X.K H a ys) : xs = ys := by
  obtain ⟨its, r, ⟨o, e, _, n, d⟩, _⟩ := I.tuple h
  obtain ⟨its', r', ⟨o', e', _, n', d'⟩, _⟩ := I.tuple h'
  rw [e] at e'; cases e'
  rw [d] at d'
  injection d' with d1 _
  have : its = its' := by simpa using congrArg Array.toList d1
  subst this
  exact r.inj r'
end

abbrev Cx.wish (X : Cx) (E : Value → Shared → Prop) : Cx := { X with xe := E }
abbrev Cx.nox (X : Cx) : Cx := X.wish fun _ _ => False
theorem Cx.Ok.wish {X : Cx} (ok : X.Ok) (E : Value → Shared → Prop) : (X.wish E).Ok :=
  ⟨ok.mod, ok.kind, ok.glob, ok.blt, ok.above, ok.inj, ok.has, ok.cab, ok.hd, ok.frames, ok.stk, ok.exf, ok.bs, ok.bsz, ok.noex, ok.exfs, ok.funs, ok.frf⟩
theorem Cx.Ok.unwish {X : Cx} {E : Value → Shared → Prop} (ok : (X.wish E).Ok) : X.Ok :=
  ⟨ok.mod, ok.kind, ok.glob, ok.blt, ok.above, ok.inj, ok.has, ok.cab, ok.hd, ok.frames, ok.stk, ok.exf, ok.bs, ok.bsz, ok.noex, ok.exfs, ok.funs, ok.frf⟩
section
variable {X : Cx} {pins : List (Addr × Obj)} {σ : St} {H : Hp} {s : Shared} {E : Value → Shared → Prop}
theorem Inv.wish (I : Inv X pins σ H s) (E : Value → Shared → Prop) : Inv (X.wish E) pins σ H s := ⟨I.ok.wish E, I.os, I.bare, I.base, I.loc, I.cell, I.free, I.freeC, I.pin, I.hok, I.len⟩
theorem Inv.unwish (I : Inv (X.wish E) pins σ H s) : Inv X pins σ H s := ⟨I.ok.unwish, I.os, I.bare, I.base, I.loc, I.cell, I.free, I.freeC, I.pin, I.hok, I.len⟩
theorem SP.unwish {D : Ends} {f : Flow} {s' : Shared} (h : SP (X.wish E) pins D f s') : SP X pins D f s' := by
  cases f with
  | next => obtain ⟨σ', H', I, q⟩ := h; exact ⟨σ', H', I.unwish, q⟩
  | brk => obtain ⟨σ', H', I, q⟩ := h; exact ⟨σ', H', I.unwish, q⟩
  | cont => obtain ⟨σ', H', I, q⟩ := h; exact ⟨σ', H', I.unwish, q⟩
  | ret u => obtain ⟨v, σ', H', I, r, q⟩ := h; exact ⟨v, σ', H', I.unwish, r, q⟩
theorem PE.nox {e : Expr} {t : TE} (h : PE X.nox e t) : PE X e t := fun pins s σ H Q I hw =>
  wpAny_mono (h pins s σ H Q (I.wish _) hw) (fun _ _ ⟨v, H', I', r, q⟩ => ⟨v, H', I'.unwish, r, q⟩) fun _ _ z => False.elim z
theorem PT.nox {e : Expr} {t : TT} (h : PT X.nox e t) : PT X e t := fun pins s σ H Q I hw =>
  wpAny_mono (h pins s σ H Q (I.wish _) hw) (fun _ _ ⟨H', I', q⟩ => ⟨H', I'.unwish, q⟩) fun _ _ z => False.elim z
theorem PSs.nox {st : List Stmt} {t : TS} (h : PSs X.nox st t) : PSs X st t := fun pins s σ H D I hw =>
  wpAny_mono (h pins s σ H D (I.wish _) hw) (fun _ _ q => q.unwish) fun _ _ z => False.elim z
end

section
variable {X : Cx} {st : Stmt} {rest : List Stmt} {t u : TS} {e : Expr} {te : TE} {pos : Pos}
def tNext : TS := fun D σ H => D.nx σ H
def tSeq (t u : TS) : TS := fun D σ H => t { D with nx := u D } σ H
theorem pss_nil : PSs X [] tNext := fun _ _ σ H _ I h => wpAny_execs_nil ⟨σ, H, I, h⟩
theorem pss_cons (h1 : PS X st t) (h2 : PSs X rest u) : PSs X (st :: rest) (tSeq t u) := by
  intro pins s σ H D I h
  refine wpAny_execs_cons (thn (h1 pins s σ H { D with nx := u D } I h) fun f s1 q => ?_)
  cases f with
  | next =>
    obtain ⟨σ', H', I', q⟩ := q
    exact h2 pins s1 σ' H' D I' q
  | ret v => exact q
  | brk => exact q
  | cont => exact q
theorem pss_one (h1 : PS X st t) : PSs X [st] t := by
  intro pins s σ H D I h
  refine wpAny_execs_cons (thn (h1 pins s σ H D I h) fun f s1 q => ?_)
  cases f with
  | next => exact wpAny_execs_nil q
  | ret v => exact q
  | brk => exact q
  | cont => exact q
theorem Inv.quiet {pins : List (Addr × Obj)} {σ : St} {H : Hp} {s : Shared} (I : Inv X pins σ H s) : interactive X.env = false := by simp [interactive, I.ok.kind]
def tDrop (te : TE) : TS := fun D σ H => te σ H fun _ H1 => D.nx σ H1
theorem ps_expr (he : PE X e te) (hs : swapsWith e none pos.line X.env = pure false := by rfl) : PS X (.Expr e pos) (tDrop te) := by
  intro pins s σ H D I h
  exact wpAny_Expr_any (thn (he pins s σ H _ I h) fun v s1 ⟨x, H1, I1, r1, q1⟩ => ⟨σ, H1, I1, q1⟩) I.quiet hs
def tRet (te : TE) : TS := fun D σ H => te σ H D.rt
theorem ps_ret (he : PE X e te) : PS X (.Return (some e) pos) (tRet te) := by
  intro pins s σ H D I h
  exact wpAny_Return_some (thn (he pins s σ H _ I h) fun v s1 ⟨x, H1, I1, r1, q1⟩ => ⟨x, σ, H1, I1, r1, q1⟩)
def tIfS (c : TT) (t u : TS) : TS := fun D σ H => c σ H fun b H1 => if b = true then t D σ H1 else u D σ H1
theorem ps_if {c : Expr} {a b : List Stmt} {tc : TT} (hc : PT X c tc) (ha : PSs X a t) (hb : PSs X b u) : PS X (.If c a b pos) (tIfS tc t u) := by
  intro pins s σ H D I h
  refine wpAny_If (thn (hc pins s σ H _ I h) fun d s1 ⟨H1, I1, q1⟩ => ?_)
  cases d with
  | true => exact ha pins s1 σ H1 D I1 q1
  | false => exact hb pins s1 σ H1 D I1 q1
end

abbrev TG := V → St → Hp → (St → Hp → Prop) → Prop
abbrev TGs := List V → St → Hp → (St → Hp → Prop) → Prop
def PG (X : Cx) (target : Expr) (t : TG) : Prop :=
  ∀ (pins : List (Addr × Obj)) (s : Shared) (σ : St) (H : Hp) (v : V) (u : Value) (Q : St → Hp → Prop), Inv X pins σ H s → RelV v u → t v σ H Q →
    wpAny (model X.prog X.w) X.A (assign target X.env u) (fun _ s' => ∃ σ' H', Inv X pins σ' H' s' ∧ Q σ' H') X.xe s
def PGs (X : Cx) (ts : List Expr) (t : TGs) : Prop :=
  ∀ (pins : List (Addr × Obj)) (s : Shared) (σ : St) (H : Hp) (vs : List V) (us : List Value) (Q : St → Hp → Prop), Inv X pins σ H s → Vals vs us → t vs σ H Q →
    wpAny (model X.prog X.w) X.A (assignInOrder ((assignEach ts X.env).map (·.2)) us) (fun _ s' => ∃ σ' H', Inv X pins σ' H' s' ∧ Q σ' H') X.xe s
abbrev TSet := V → V → V → Hp → (Hp → Prop) → Prop
def PSet (X : Cx) (t : TSet) : Prop :=
  ∀ (pins : List (Addr × Obj)) (s : Shared) (σ : St) (H : Hp) (o i v : V) (ov iv u : Value) (Q : Hp → Prop), Inv X pins σ H s → RelV o ov → RelV i iv → RelV v u → t o i v H Q →
    wpAny (model X.prog X.w) X.A (setItem ov iv u) (fun _ s' => ∃ H', Inv X pins σ H' s' ∧ Q H') X.xe s
section
variable {X : Cx} {pos : Pos}
def gName (i : Nat) : TG := fun v σ H Q => Q (σ.set i (some v)) H
theorem pg_name {i : Nat} {x : Str} (hN : X.N.Nodup) (hi : X.N[i]? = some x) (hx : Loc X.env.scope x) (hf : X.fn x = true ∨ X.env.scope.names.lookup x = some .local := by first | exact .inl rfl | exact .inr rfl | assumption) : PG X (.Name x pos) (gName i) := by
  intro pins s σ H v u Q I r h
  exact wpAny_assign_Name (store_ok I hN hi hx r (fun s' I' => ⟨_, H, I', h⟩) hf)
def gNil : TGs := fun vs σ H Q => vs = [] ∧ Q σ H
def gCons (t : TG) (u : TGs) : TGs := fun vs σ H Q => ∃ v r, vs = v :: r ∧ t v σ H fun σ' H' => u r σ' H' Q
theorem pgs_nil : PGs X [] gNil := by
  intro pins s σ H vs us Q I r h
  obtain ⟨e, h⟩ := h
  subst e
  cases r
  exact assignInOrder_nil ⟨σ, H, I, h⟩
theorem pgs_cons {e : Expr} {es : List Expr} {t : TG} {u : TGs} (h1 : PG X e t) (h2 : PGs X es u)
    (hs : (assignEach (e :: es) X.env).map (·.2) = assign e X.env :: (assignEach es X.env).map (·.2) := by rfl) : PGs X (e :: es) (gCons t u) := by
  intro pins s σ H vs us Q I r h
  obtain ⟨v, vr, e1, h⟩ := h
  subst e1
  cases r with
  | cons r rr =>
    rw [hs]
    refine assignInOrder_cons (thn (h1 pins s σ H _ _ _ I r h) fun _ s1 ⟨σ1, H1, I1, q1⟩ => ?_)
    exact h2 pins s1 σ1 H1 _ _ Q I1 rr q1
def gTup (K : PySem.W.Frag) (n : Nat) (t : TGs) : TG := fun v σ H Q => ∃ a xs, v = .ref a ∧ SqT K H a xs ∧ xs.length = n ∧ t xs σ H Q
theorem pg_tup {es : List Expr} {k : Nat} {t : TGs} {n : Nat} (hc : X.calm = true) (h : PGs X es t)
    (hn : (assignEach es X.env).length = n := by rfl) (hst : (assignEach es X.env).findIdx? (·.1) = none := by rfl) : PG X (.Tuple es k pos) (gTup X.K n t) := by
  intro pins s σ H v u Q I r hw
  obtain ⟨a, xs, e1, hq, hl, hw⟩ := hw
  subst e1
  cases r
  obtain ⟨its, rv, ht, hz⟩ := I.tuple hq
  refine assign_Tuple_tuple (I.ok.hd hc) ht (by simp [hn, ← hl, rv.length]) hst fun h' hx => ?_
  have I1 : Inv X pins σ H { s with heap := h' } := I.kept (t' := s.toks) fun b o e => hx b o (Nat.ne_of_lt (Heap.lt_size e)) e
  exact h pins _ σ H xs _ Q I1 (by simpa using rv) hw
def gSub (to ti : TE) (t : TSet) : TG := fun v σ H Q => to σ H fun o H1 => ti σ H1 fun i H2 => t o i v H2 fun H3 => Q σ H3
theorem pg_sub {o i : Expr} {to ti : TE} {t : TSet} (ho : PE X o to) (hi : PE X i ti) (hs : PSet X t)
    (ha : ∀ v, assign (.Subscript o i pos) X.env v = (do
      let ov ← holding [v] (eval o X.env)
      let iv ← holding [v, ov] (eval i X.env)
      standAt pos
      holding [v, ov, iv] (setItem ov iv v)
      release [v, ov, iv] []) := by intro _; rfl) : PG X (.Subscript o i pos) (gSub to ti t) := by
  intro pins s σ H v u Q I r h
  rw [ha]
  refine wpAny_bind (wpAny_holding (thn (ho pins s σ H _ I h) fun ov s1 ⟨x, H1, I1, r1, q1⟩ => ?_))
  refine wpAny_bind (wpAny_holding (thn (hi pins s1 σ H1 _ I1 q1) fun iv s2 ⟨y, H2, I2, r2, q2⟩ => ?_))
  refine wpAny_bind (wpAny_standAt (wpAny_bind (wpAny_holding (thn (hs pins s2 σ H2 x y v ov iv u _ I2 r1 r2 r q2) fun _ s3 ⟨H3, I3, q3⟩ => ?_))))
  exact wpAny_release ⟨σ, H3, I3, q3⟩
def tAsg (te : TE) (g : TG) : TS := fun D σ H => te σ H fun x H1 => g x σ H1 D.nx
theorem ps_asg {tg e : Expr} {te : TE} {g : TG} (he : PE X e te) (hg : PG X tg g) (hs : swapsWithSole [tg] e pos.line X.env = pure false := by rfl) (hw : swappedStores [tg] e X.env = pure none := by rfl)
    (h1 : (assignEach [tg] X.env).map (·.2) = [assign tg X.env] := by rfl) : PS X (.Assign [tg] e pos) (tAsg te g) := by
  intro pins s σ H D I h
  refine wpAny_Assign_stores (thn (he pins s σ H _ I h) fun v s1 ⟨x, H1, I1, r1, q1⟩ => ?_) hs hw
  rw [h1]
  exact thn (hg pins s1 σ H1 x v _ I1 r1 q1) fun _ s2 q => q
theorem ps_set {i : Nat} {x : Str} {e : Expr} {te : TE} {pos' : Pos} (hN : X.N.Nodup) (hi : X.N[i]? = some x) (hx : Loc X.env.scope x) (he : PE X e te) (hs : swapsWith e (some (.Name x pos')) pos.line X.env = pure false := by rfl) (hf : X.fn x = true ∨ X.env.scope.names.lookup x = some .local := by first | exact .inl rfl | exact .inr rfl | assumption) :
    PS X (.Assign [.Name x pos'] e pos) (tAsg te (gName i)) := by
  intro pins s σ H D I h
  refine wpAny_Assign_Name (thn (he pins s σ H _ I h) fun v s1 ⟨y, H1, I1, r1, q1⟩ => ?_) hs
  exact store_ok I1 hN hi hx r1 (fun s2 I2 => ⟨_, H1, I2, q1⟩) hf
end

section
variable {X : Cx} {pos : Pos}
end

structure It where
  go : Nat → Hp → Prop
  yld : Nat → Hp → V → Hp → Prop
  stop : Nat → Hp → Prop
def FpOk (X : Cx) (pins : List (Addr × Obj)) (H : Hp) (b : Addr) : Prop :=
  H b = none ∧ b ≠ X.env.locals ∧ b ∉ X.fs ∧ (b ∈ X.ex ∨ X.s₀.heap.objs.size ≤ b) ∧ (∀ x c, X.env.cells.lookup x = some c → c ≠ b) ∧ ∀ p ∈ X.pn ++ pins, p.1 ≠ b
theorem Inv.fpOk {X : Cx} {pins : List (Addr × Obj)} {σ : St} {H H' : Hp} {s : Shared} {b : Addr} (I : Inv X pins σ H s) (hb : s.heap.objs.size ≤ b) (hn : H' b = none) : FpOk X pins H' b := by
  refine ⟨hn, Nat.ne_of_gt (Nat.lt_of_lt_of_le I.lt hb), I.nofs hb, .inr (Nat.le_trans I.sz hb), fun x c e z => ?_, fun p hp z => ?_⟩
  · obtain ⟨v, q⟩ := I.cell x c e
    exact absurd (Nat.lt_of_lt_of_le q.lt (by rw [z]; exact hb)) (Nat.lt_irrefl _)
  · exact absurd (Nat.lt_of_lt_of_le (Heap.lt_size (I.pin p hp).1) (by rw [z]; exact hb)) (Nat.lt_irrefl _)
structure Turn (P : Program) (w : World) (K : PySem.W.Frag) (tg : Expr) (J : It) (fp : List Addr) (it : Addr) (tn : Nat → Heap → Prop) : Prop where
  mem : it ∈ fp
  obj : ∀ i h, tn i h → ∀ b ∈ fp, ∃ o, h.get? b = some o ∧ ∀ v, o.data ≠ .cell v
  keep : ∀ i h h', tn i h → (∀ b ∈ fp, ∀ o, h.get? b = some o → h'.get? b = some o) → tn i h'
  item : ∀ (X : Cx), X.prog = P → X.w = w → X.K = K → X.calm = true → ∀ (i : Nat) (pins : List (Addr × Obj)) (s : Shared) (σ : St) (H : Hp) (E : Value → Shared → Prop), Inv X pins σ H s → (∀ b ∈ fp, FpOk X pins H b) → tn i s.heap → J.go i H →
    wpAny (model P w) X.A (pyNext (.ref it)) (fun r s1 => ∃ u, r = some u ∧
      wpAny (model P w) X.A (letOwnedTupleGo tg (.ref it) u) (fun _ s2 => ∃ x H', Inv X pins σ H' s2 ∧ RelV x u ∧ J.yld i H x H' ∧ tn (i + 1) s2.heap ∧ ∀ b ∈ fp, H' b = none) E s1) E s
  done : ∀ (X : Cx), X.prog = P → X.w = w → X.K = K → X.calm = true → ∀ (i : Nat) (pins : List (Addr × Obj)) (s : Shared) (σ : St) (H : Hp) (E : Value → Shared → Prop), Inv X pins σ H s → (∀ b ∈ fp, FpOk X pins H b) → tn i s.heap → J.stop i H →
    wpAny (model P w) X.A (pyNext (.ref it)) (fun r s1 => r = none ∧ Inv X pins σ H s1) E s
  self : ∀ (A : Around) (i : Nat) (s : Shared) (Q : Value → Shared → Prop) (E : Value → Shared → Prop), tn i s.heap → Q (.ref it) s → wpAny (model P w) A (pyIter (.ref it)) Q E s
abbrev TI := St → Hp → (It → Hp → Prop) → Prop
def PIE (X : Cx) (pins : List (Addr × Obj)) (σ : St) (tg : Expr) (R : It → Hp → Prop) (itv : Value) (s2 : Shared) : Prop :=
  ∃ (it : Addr) (fp : List Addr) (tn : Nat → Heap → Prop) (J : It) (H' : Hp), itv = .ref it ∧ Inv X pins σ H' s2 ∧ Turn X.prog X.w X.K tg J fp it tn ∧ tn 0 s2.heap ∧ (∀ b ∈ fp, FpOk X pins H' b) ∧ R J H'
def PI (X : Cx) (tg iter : Expr) (wi : TI) : Prop :=
  ∀ (pins : List (Addr × Obj)) (s : Shared) (σ : St) (H : Hp) (R : It → Hp → Prop), Inv X pins σ H s → wi σ H R →
    wpAny (model X.prog X.w) X.A (eval iter X.env) (fun v s1 => wpAny (model X.prog X.w) X.A (pyIter v) (PIE X pins σ tg R) X.xe s1) X.xe s

theorem go_of {M : Model} {A : Around} {E : Value → Shared → Prop} {s : Shared} {tg : Expr} {it : Addr} {u : Value} {o : Obj} {n : String} {vs : Array Value} {Q : Unit → Shared → Prop} (ho : s.heap.get? it = some o) (hc : o.cls = .type n) (hd : o.data = .fields vs)
    (hn : ["enumerate", "zip", "dict_itemiterator", "dict_reverseitemiterator", "odict_iterator", "itertools.zip_longest", "itertools.pairwise"].contains n = false) (hQ : Q () s) : wpAny M A (letOwnedTupleGo tg (.ref it) u) Q E s := by
  unfold letOwnedTupleGo
  cases tg <;> first
    | exact wpAny_pure hQ
    | (cases u <;> first
        | exact wpAny_pure hQ
        | (refine wpAny_bind (wpAny_load ho ?_)
           rw [hc, hd]
           show wpAny M A (if (["enumerate", "zip", "dict_itemiterator", "dict_reverseitemiterator", "odict_iterator", "itertools.zip_longest", "itertools.pairwise"].contains n && vs[0]? == some (rawInt _)) = true then _ else _) Q E s
           rw [if_neg (by intro h; rw [hn, Bool.false_and] at h; cases h)]
           exact wpAny_pure hQ))

def Itl (K : PySem.W.Frag) (a : Addr) : It :=
  ⟨fun i H => ∃ xs x, SqL K H a xs ∧ xs[i]? = some x, fun i H x H' => H' = H ∧ ∀ xs, SqL K H a xs → xs[i]? = some x, fun i H => ∃ xs, SqL K H a xs ∧ xs.length ≤ i⟩
def Itt (K : PySem.W.Frag) (a : Addr) : It :=
  ⟨fun i H => ∃ xs x, SqT K H a xs ∧ xs[i]? = some x, fun i H x H' => H' = H ∧ ∀ xs, SqT K H a xs → xs[i]? = some x, fun i H => ∃ xs, SqT K H a xs ∧ xs.length ≤ i⟩
def Itr (lo : Int) (n : Nat) : It := ⟨fun i _ => i < n, fun i H x H' => H' = H ∧ x = .int (lo + i), fun i _ => n ≤ i⟩
theorem turn_list {P : Program} {w : World} {K : PySem.W.Frag} {tg : Expr} (a it : Addr) : Turn P w K tg (Itl K a) [it] it (fun i h => h.IsListIter it a i) where
  mem := by simp
  obj := fun i h st b hb => by
    have e : b = it := by simpa using hb
    subst e
    obtain ⟨o, e, c, d⟩ := st
    exact ⟨o, e, fun v z => by rw [d] at z; cases z⟩
  keep := fun i h h' st k => st.at fun o e => k it (by simp) o e
  item := by
    intro X hP hw hK hc i pins s σ H E I hf st hg
    subst hP hw hK
    obtain ⟨xs, x, hq, hx⟩ := hg
    obtain ⟨its, rv, p, hz⟩ := I.list hq
    obtain ⟨u, hu, ru⟩ := rv.get hx
    obtain ⟨f0, f1, f2, f3, f4, f5⟩ := hf it (by simp)
    refine wpAny_pyNext_list_item st p.isList (x := u) (by simpa using hu) fun h' st' sb => ?_
    have I1 : Inv X pins σ H { s with heap := h' } := I.turned (t' := s.toks) (fun b o hb e => (sb.2 b hb).trans e) f0 f1 f3 f4 f5
    obtain ⟨o, e, c, d⟩ := id st'
    exact ⟨u, rfl, go_of (s := { s with heap := h' }) e c d (by decide) ⟨x, H, I1, ru, ⟨rfl, fun ys hy => by rw [I.list_inj hy hq]; exact hx⟩, st', fun b hb => (hf b hb).1⟩⟩
  done := by
    intro X hP hw hK hc i pins s σ H E I hf st hg
    subst hP hw hK
    obtain ⟨xs, hq, hx⟩ := hg
    obtain ⟨its, rv, p, hz⟩ := I.list hq
    obtain ⟨f0, f1, f2, f3, f4, f5⟩ := hf it (by simp)
    have hl := rv.length
    exact wpAny_pyNext_list_end (I.ok.hd hc) st p.isList (by simp; omega) fun h' eb => ⟨rfl, I.turned (t' := s.toks) (fun b o hb e => eb b o hb e) f0 f1 f3 f4 f5⟩
  self := fun _ _ _ _ _ st h => wpAny_pyIter_listiter st h
theorem turn_tuple {P : Program} {w : World} {K : PySem.W.Frag} {tg : Expr} (a it : Addr) : Turn P w K tg (Itt K a) [it] it (fun i h => h.IsTupleIter it a i) where
  mem := by simp
  obj := fun i h st b hb => by
    have e : b = it := by simpa using hb
    subst e
    obtain ⟨o, e, c, d⟩ := st
    exact ⟨o, e, fun v z => by rw [d] at z; cases z⟩
  keep := fun i h h' st k => st.at fun o e => k it (by simp) o e
  item := by
    intro X hP hw hK hc i pins s σ H E I hf st hg
    subst hP hw hK
    obtain ⟨xs, x, hq, hx⟩ := hg
    obtain ⟨its, rv, p, hz⟩ := I.tuple hq
    obtain ⟨u, hu, ru⟩ := rv.get hx
    obtain ⟨f0, f1, f2, f3, f4, f5⟩ := hf it (by simp)
    refine wpAny_pyNext_tuple_item st (show s.heap.IsTuple a its.toArray from p) (x := u) (by simpa using hu) fun h' st' sb => ?_
    have I1 : Inv X pins σ H { s with heap := h' } := I.turned (t' := s.toks) (fun b o hb e => (sb.2 b hb).trans e) f0 f1 f3 f4 f5
    obtain ⟨o, e, c, d⟩ := id st'
    exact ⟨u, rfl, go_of (s := { s with heap := h' }) e c d (by decide) ⟨x, H, I1, ru, ⟨rfl, fun ys hy => by rw [I.tuple_inj hy hq]; exact hx⟩, st', fun b hb => (hf b hb).1⟩⟩
  done := by
    intro X hP hw hK hc i pins s σ H E I hf st hg
    subst hP hw hK
    obtain ⟨xs, hq, hx⟩ := hg
    obtain ⟨its, rv, p, hz⟩ := I.tuple hq
    obtain ⟨f0, f1, f2, f3, f4, f5⟩ := hf it (by simp)
    have hl := rv.length
    exact wpAny_pyNext_tuple_end (I.ok.hd hc) st (show s.heap.IsTuple a its.toArray from p) (by simp; omega) fun h' eb => ⟨rfl, I.turned (t' := s.toks) (fun b o hb e => eb b o hb e) f0 f1 f3 f4 f5⟩
  self := fun _ _ _ _ _ st h => wpAny_pyIter_tupleiter st h
theorem turn_range {P : Program} {w : World} {K : PySem.W.Frag} {tg : Expr} (it : Addr) (lo : Int) (n : Nat) : Turn P w K tg (Itr lo n) [it] it (fun i h => IsRangeIter h it (lo + (i : Nat) * 1) ((n : Int) - (i : Nat)) 1) where
  mem := by simp
  obj := fun i h st b hb => by
    have e : b = it := by simpa using hb
    subst e
    exact ⟨_, st, fun v z => by
      have z' : Data.fields _ = Data.cell v := z
      cases z'⟩
  keep := fun i h h' st k => k it (by simp) _ st
  item := by
    intro X hP hw hK hc i pins s σ H E I hf st hg
    subst hP hw hK
    obtain ⟨f0, f1, f2, f3, f4, f5⟩ := hf it (by simp)
    have W := Walks.range (prog := X.prog) (w := X.w) (I.ok.hd hc) it lo 1 n
    refine W.item i s _ _ hg st fun v h' tk hv st' kk => ?_
    obtain ⟨t, rfl⟩ := hv
    have I1 : Inv X pins σ H { s with heap := h', toks := tk } := I.turned (fun b o hb e => kk b o (by simpa using hb) e) f0 f1 f3 f4 f5
    refine ⟨_, rfl, go_of (s := { s with heap := h', toks := tk }) (n := "range_iterator") st' rfl rfl (by decide) ⟨.int (lo + i), H, I1, ⟨t, ?_⟩, ⟨rfl, rfl⟩, st', fun b hb => (hf b hb).1⟩⟩
    rw [Int.mul_one]
  done := by
    intro X hP hw hK hc i pins s σ H E I hf st hg
    subst hP hw hK
    obtain ⟨f0, f1, f2, f3, f4, f5⟩ := hf it (by simp)
    exact wpAny_pyNext_range_end (I.ok.hd hc) st (by have : n ≤ i := hg; omega) fun h' eb => ⟨rfl, I.turned (t' := s.toks) (fun b o hb e => eb b o hb e) f0 f1 f3 f4 f5⟩
  self := fun _ _ _ _ _ st h => wpAny_pyIter_rangeiter st h
end L2

namespace L2
open PySem PySem.Spec PyProof.Rows
section
variable {X : Cx} {tg : Expr}
def iList (K : PySem.W.Frag) (tl : TE) : TI := fun σ H R => tl σ H fun x H1 => ∃ a, x = .ref a ∧ (∃ xs, SqL K H1 a xs) ∧ R (Itl K a) H1
def iTup (K : PySem.W.Frag) (tl : TE) : TI := fun σ H R => tl σ H fun x H1 => ∃ a, x = .ref a ∧ (∃ xs, SqT K H1 a xs) ∧ R (Itt K a) H1
theorem pi_list {l : Expr} {tl : TE} (hl : PE X l tl) : PI X tg l (iList X.K tl) := by
  intro pins s σ H R I h
  refine thn (hl pins s σ H _ I h) fun v s1 ⟨x, H1, I1, r1, q1⟩ => ?_
  obtain ⟨a, e, ⟨xs, hq⟩, q⟩ := q1
  subst e
  cases r1
  obtain ⟨its, rv, p, hz⟩ := I1.list hq
  refine wpAny_pyIter_list p.isList ?_
  refine ⟨s1.heap.objs.size, [s1.heap.objs.size], _, _, H1, rfl, I1.kept (t' := s1.toks) fun b o e => Heap.get?_push_of_some _ e, turn_list a _, ⟨_, Heap.get?_push_size _ rfl, rfl, rfl⟩, fun b hb => ?_, q⟩
  have e : b = s1.heap.objs.size := by simpa using hb
  subst e
  exact I1.fpOk (Nat.le_refl _) (I1.hok.fresh (Nat.le_refl _))
theorem pi_tup {l : Expr} {tl : TE} (hl : PE X l tl) : PI X tg l (iTup X.K tl) := by
  intro pins s σ H R I h
  refine thn (hl pins s σ H _ I h) fun v s1 ⟨x, H1, I1, r1, q1⟩ => ?_
  obtain ⟨a, e, ⟨xs, hq⟩, q⟩ := q1
  subst e
  cases r1
  obtain ⟨its, rv, p, hz⟩ := I1.tuple hq
  refine wpAny_pyIter_tuple (show s1.heap.IsTuple a its.toArray from p) ?_
  refine ⟨s1.heap.objs.size, [s1.heap.objs.size], _, _, H1, rfl, I1.kept (t' := s1.toks) fun b o e => Heap.get?_push_of_some _ e, turn_tuple a _, ⟨_, Heap.get?_push_size _ rfl, rfl, rfl⟩, fun b hb => ?_, q⟩
  have e : b = s1.heap.objs.size := by simpa using hb
  subst e
  exact I1.fpOk (Nat.le_refl _) (I1.hok.fresh (Nat.le_refl _))
theorem range_it {pins : List (Addr × Obj)} {σ : St} {H : Hp} {s : Shared} {R : It → Hp → Prop} {E : Value → Shared → Prop} {lo hi : Int} {t u v : Tok} {tk : Nat} (I : Inv X pins σ H s) (h1 : -(2 ^ 62) ≤ lo) (h2 : lo < 2 ^ 62) (h3 : -(2 ^ 62) ≤ hi) (h4 : hi < 2 ^ 62)
    (q : R (Itr lo (hi - lo).toNat) H) : wpAny (model X.prog X.w) X.A (pyIter (.ref s.heap.objs.size)) (PIE X pins σ tg R) E { s with heap := s.heap.push { cls := .type "range", data := .fields #[.int lo t, .int hi u, .int 1 v] }, toks := tk } := by
  refine wpAny_pyIter_range (IsRange.new ..) (small_one h1 h2 h3 h4) ?_
  have I1 : Inv X pins σ H { s with heap := s.heap.push { cls := .type "range", data := .fields #[.int lo t, .int hi u, .int 1 v] }, toks := tk } := I.kept fun b o e => Heap.get?_push_of_some _ e
  refine ⟨(s.heap.push { cls := .type "range", data := .fields #[.int lo t, .int hi u, .int 1 v] }).objs.size, [(s.heap.push { cls := .type "range", data := .fields #[.int lo t, .int hi u, .int 1 v] }).objs.size], _, _, H, rfl,
    I1.kept (t' := tk) fun b o e => Heap.get?_push_of_some _ e, turn_range _ lo (hi - lo).toNat, ?_, fun b hb => ?_, q⟩
  · have e1 : lo + ((0 : Nat) : Int) * 1 = lo := by simp
    have e2 : (((hi - lo).toNat : Nat) : Int) - ((0 : Nat) : Int) = Builtin.Range.rangeSize lo hi 1 := by rw [rangeSize_one]; split <;> omega
    show IsRangeIter _ _ (lo + ((0 : Nat) : Int) * 1) ((((hi - lo).toNat : Nat) : Int) - ((0 : Nat) : Int)) 1
    rw [e1, e2]
    exact Heap.get?_push_size _ rfl
  · have e : b = (s.heap.push { cls := .type "range", data := .fields #[.int lo t, .int hi u, .int 1 v] }).objs.size := by simpa using hb
    subst e
    exact I1.fpOk (Nat.le_refl _) (I1.hok.fresh (Nat.le_refl _))
def iRng1 (ta : TA) : TI := fun σ H R => ta σ H fun vs H1 => ∃ j : Int, vs = [.int j] ∧ -(2 ^ 62) ≤ j ∧ j < 2 ^ 62 ∧ R (Itr 0 j.toNat) H1
theorem pi_range1 {a : Expr} {ta : TA} {p pos : Pos} (hg : Gl X "range") (hm : X.mg "range" = none) (ha : PA X [a] ta) (hs : starEach [a] X.env = [(false, eval a X.env)] := by rfl) : PI X tg (.Call (.Name "range" p) [a] [] pos) (iRng1 ta) := by
  intro pins s σ H R I h
  refine Call_ (ld_blt I hg hm boot_range (PyProof.Rows.callWith_type1 (thn (ha pos pins s σ H _ I h) fun us s1 ⟨vs, H1, I1, r1, q1⟩ => ?_) hs rfl))
  obtain ⟨j, e, q1, q2, q⟩ := q1
  subst e
  cases r1 with
  | cons r rr =>
    cases rr
    obtain ⟨t, rfl⟩ := r
    exact call_range_1 (range_it I1 (by omega) (by omega) q1 q2 (by simpa using q))
def tFor (wi : TI) (g : TG) (tb : TS) : TS := fun D σ H => wi σ H fun J H1 => ∃ W : Nat → Nat → St → Hp → Prop, (∃ m, W 0 m σ H1) ∧ ∀ i m σ H, W i m σ H →
  (J.stop i H ∧ D.nx σ H) ∨ (J.go i H ∧ ∃ N : St → Hp → Prop, (∀ σ' H', N σ' H' → ∃ m', m' < m ∧ W (i + 1) m' σ' H') ∧ ∀ x H', J.yld i H x H' → g x σ H' fun σ2 H2 => tb { D with nx := N, ct := N, bk := D.nx } σ2 H2)
def pinsAt (fp : List Addr) (h : Heap) : List (Addr × Obj) := fp.filterMap fun b => (h.get? b).map fun o => (b, o)
theorem mem_pinsAt {fp : List Addr} {h : Heap} {b : Addr} {o : Obj} (hb : b ∈ fp) (e : h.get? b = some o) : (b, o) ∈ pinsAt fp h := List.mem_filterMap.mpr ⟨b, hb, by rw [e]; rfl⟩
theorem of_pinsAt {fp : List Addr} {h : Heap} {p : Addr × Obj} (hp : p ∈ pinsAt fp h) : p.1 ∈ fp ∧ h.get? p.1 = some p.2 := by
  obtain ⟨b, hb, e⟩ := List.mem_filterMap.mp hp
  cases q : h.get? b with
  | none => rw [q] at e; cases e
  | some o =>
    rw [q] at e
    have e' : (b, o) = p := Option.some.inj e
    subst e'
    exact ⟨hb, q⟩
theorem Inv.pinned {pins : List (Addr × Obj)} {σ : St} {H : Hp} {s : Shared} {fp : List Addr} (I : Inv X pins σ H s) (hf : ∀ b ∈ fp, FpOk X pins H b) (ho : ∀ b ∈ fp, ∃ o, s.heap.get? b = some o ∧ ∀ v, o.data ≠ .cell v) : Inv X (pins ++ pinsAt fp s.heap) σ H s :=
  I.pins_of fun p hp => (List.mem_append.mp hp).elim (fun z => I.pin p (List.mem_append_right _ z)) fun z => by
    obtain ⟨hb, e⟩ := of_pinsAt z
    obtain ⟨f0, f1, f2, _⟩ := hf p.1 hb
    obtain ⟨o, e', d⟩ := ho p.1 hb
    rw [e] at e'; cases e'
    exact ⟨e, f0, f1, f2, d⟩
theorem Inv.unpinned {pins pl : List (Addr × Obj)} {σ : St} {H : Hp} {s : Shared} (I : Inv X (pins ++ pl) σ H s) : Inv X pins σ H s := I.pins_of fun p hp => I.pin p (List.mem_append_right _ (List.mem_append_left _ hp))
theorem ps_for {iter : Expr} {body : List Stmt} {wi : TI} {g : TG} {tb : TS} {pos : Pos} (hp : PassesOwn (model X.prog X.w) X.A X.env X.xe) (hc : X.calm = true) (hi : PI X tg iter wi) (hg : PG X tg g) (hb : PSs X body tb)
    (hs : ∀ x, foldedSetIterable iter X.env x = pure x := by intro _; rfl) : PS X (.For tg iter body [] pos) (tFor wi g tb) := by
  intro pins s σ H D I h
  refine wpAny_For (thn (hi pins s σ H _ I h) fun v s1 h1 => thn h1 fun itv s2 h2 => ?_) hs
  obtain ⟨it, fp, tn, J, H2, e, I2, T, st2, f2, W, ⟨m0, w0⟩, turn⟩ := h2
  subst e
  -- what stays true of the iterator's objects through the loop
  have stat : ∀ {H' : Hp}, (∀ b ∈ fp, H' b = none) → ∀ b ∈ fp, FpOk X pins H' b := fun hn b hb => ⟨hn b hb, (f2 b hb).2⟩
  refine codeAny_forLoop_any (fun n s' => ∃ i σ' H', Inv X pins σ' H' s' ∧ tn i s'.heap ∧ (∀ b ∈ fp, H' b = none) ∧ W i n σ' H') ?_ m0 ⟨0, σ, H2, I2, st2, fun b hb => (f2 b hb).1, w0⟩
  rintro n s3 ⟨i, σ3, H3, I3, st3, fr3, w3⟩
  rcases turn i n σ3 H3 w3 with ⟨stop, qn⟩ | ⟨go, N, hN, step⟩
  · refine wpAny_passesOwn hp (thn (T.done X rfl rfl rfl hc i pins s3 σ3 H3 X.xe I3 (stat fr3) st3 stop) fun r s4 ⟨hr, I4⟩ => ?_)
    subst hr
    exact wpAny_execs_nil ⟨σ3, H3, I4, qn⟩
  · refine wpAny_passesOwn hp (thn (T.item X rfl rfl rfl hc i pins s3 σ3 H3 X.xe I3 (stat fr3) st3 go) fun r s4 ⟨u, hr, h4⟩ => ?_)
    subst hr
    refine wpAny_passesOwn hp (thn h4 fun _ s5 ⟨x, H5, I5, r5, y5, st5, fr5⟩ => ?_)
    have I5' := I5.pinned (stat fr5) (T.obj _ _ st5)
    refine wpAny_passesOwn hp (thn (hg _ s5 σ3 H5 x u _ I5' r5 (step x H5 y5)) fun _ s6 ⟨σ6, H6, I6, q6⟩ => ?_)
    refine wpAny_passesOwn hp (thn (hb _ s6 σ6 H6 _ I6 q6) fun f s7 q7 => ?_)
    have again : ∀ {σ7 : St} {H7 : Hp}, Inv X (pins ++ pinsAt fp s5.heap) σ7 H7 s7 → N σ7 H7 → ∃ m, m < n ∧ ∃ i σ' H', Inv X pins σ' H' s7 ∧ tn i s7.heap ∧ (∀ b ∈ fp, H' b = none) ∧ W i m σ' H' := fun {σ7 H7} I7 n7 => by
      obtain ⟨m', hm, w7⟩ := hN σ7 H7 n7
      refine ⟨m', hm, i + 1, σ7, H7, I7.unpinned, T.keep _ _ _ st5 fun b hb o e => (I7.pin (b, o) (List.mem_append_right _ (List.mem_append_right _ (mem_pinsAt hb e)))).1, fun b hb => ?_, w7⟩
      obtain ⟨o, e, d⟩ := T.obj _ _ st5 b hb
      exact (I7.pin (b, o) (List.mem_append_right _ (List.mem_append_right _ (mem_pinsAt hb e)))).2.1
    cases f with
    | next => obtain ⟨σ7, H7, I7, n7⟩ := q7; exact again I7 n7
    | cont => obtain ⟨σ7, H7, I7, n7⟩ := q7; exact again I7 n7
    | brk => obtain ⟨σ7, H7, I7, q7⟩ := q7; exact ⟨σ7, H7, I7.unpinned, q7⟩
    | ret v => obtain ⟨x7, σ7, H7, I7, r7, q7⟩ := q7; exact ⟨x7, σ7, H7, I7.unpinned, r7, q7⟩
end

end L2

namespace L2
open PySem PySem.Spec PyProof.Rows

abbrev R2 := V → V → Hp → VK → Prop
def OpR (X : Cx) (f : Value → Value → Sem Value) (r : R2) : Prop :=
  ∀ (pins : List (Addr × Obj)) (s : Shared) (σ : St) (H : Hp) (x y : V) (v u : Value) (Q : VK), Inv X pins σ H s → RelV x v → RelV y u → r x y H Q →
    wpAny (model X.prog X.w) X.A (f v u) (EP X pins σ Q) X.xe s
def UnR (X : Cx) (f : Value → Sem Value) (r : V → Hp → VK → Prop) : Prop :=
  ∀ (pins : List (Addr × Obj)) (s : Shared) (σ : St) (H : Hp) (x : V) (v : Value) (Q : VK), Inv X pins σ H s → RelV x v → r x H Q →
    wpAny (model X.prog X.w) X.A (f v) (EP X pins σ Q) X.xe s
def CallR (X : Cx) (f : Value) (r : List V → Hp → VK → Prop) : Prop :=
  ∀ (pins : List (Addr × Obj)) (s : Shared) (σ : St) (H : Hp) (xs : List V) (us : List Value) (Q : VK), Inv X pins σ H s → Vals xs us → r xs H Q →
    wpAny (model X.prog X.w) X.A (call f us) (EP X pins σ Q) X.xe s
def TruR (X : Cx) (r : V → Hp → (Bool → Hp → Prop) → Prop) : Prop :=
  ∀ (pins : List (Addr × Obj)) (s : Shared) (σ : St) (H : Hp) (x : V) (v : Value) (Q : Bool → Hp → Prop), Inv X pins σ H s → RelV x v → r x H Q →
    wpAny (model X.prog X.w) X.A (truthy v) (TP X pins σ Q) X.xe s

def tOp (r : R2) (ta tb : TE) : TE := fun σ H Q => ta σ H fun x H1 => tb σ H1 fun y H2 => r x y H2 Q
def tUn (r : V → Hp → VK → Prop) (ta : TE) : TE := fun σ H Q => ta σ H fun x H1 => r x H1 Q
def rI (C : Int → Int → Prop) (g : Int → Int → V) : R2 := fun x y H Q => ∃ i j, x = .int i ∧ y = .int j ∧ C i j ∧ Q (g i j) H
def rI0 (g : Int → Int → V) : R2 := fun x y H Q => ∃ i j, x = .int i ∧ y = .int j ∧ Q (g i j) H
def rU (g : Int → V) : V → Hp → VK → Prop := fun x H Q => ∃ i, x = .int i ∧ Q (g i) H

section
variable {X : Cx} {a b c : Expr} {ta tb tc : TE} {pos : Pos}

theorem binT (ha : PE X a ta) (hb : PE X b tb) {pins : List (Addr × Obj)} {s : Shared} {σ : St} {H : Hp} {R : V → V → Hp → Prop} (I : Inv X pins σ H s)
    (h : ta σ H fun x H1 => tb σ H1 fun y H2 => R x y H2) {Q : Value → Shared → Prop} {f : Value → Value → Sem Value}
    (hf : ∀ v u s2 x y H2, Inv X pins σ H2 s2 → RelV x v → RelV y u → R x y H2 → wpAny (model X.prog X.w) X.A (f v u) Q X.xe s2) :
    wpAny (model X.prog X.w) X.A (eval a X.env) (fun v s₁ => wpAny (model X.prog X.w) X.A (eval b X.env) (fun u s₂ => wpAny (model X.prog X.w) X.A (f v u) Q X.xe s₂) X.xe s₁) X.xe s := by
  refine thn (ha pins s σ H _ I h) fun v s1 ⟨x, H1, I1, r1, q1⟩ => ?_
  refine thn (hb pins s1 σ H1 _ I1 q1) fun u s2 ⟨y, H2, I2, r2, q2⟩ => ?_
  exact hf v u s2 x y H2 I2 r1 r2 q2

theorem pe_op {op : Operator} {r : R2} (ho : OpR X (binaryOp op) r) (ha : PE X a ta) (hb : PE X b tb) : PE X (.BinOp a op b pos) (tOp r ta tb) := by
  intro pins s σ H Q I h
  exact wpAny_BinOp (binT ha hb I h fun v u s2 x y H2 I2 rx ry q => ho pins s2 σ H2 x y v u Q I2 rx ry q)
theorem pe_un {op : UnaryOp} {r : V → Hp → VK → Prop} (ho : UnR X (unaryOp op) r) (ha : PE X a ta) : PE X (.UnaryOp op a pos) (tUn r ta) := by
  intro pins s σ H Q I h
  exact UnaryOp_ (thn (ha pins s σ H _ I h) fun v s1 ⟨x, H1, I1, r1, q1⟩ => ho pins s1 σ H1 x v Q I1 r1 q1)
theorem opI {f : Value → Value → Sem Value} {C : Int → Int → Prop} {g : Int → Int → Int}
    (rule : ∀ (i j : Int) (t u : Tok) (s : Shared) (Q : Value → Shared → Prop) (E : Value → Shared → Prop), C i j → Q (.int (g i j) s.toks) { s with toks := s.toks + 1 } → wpAny (model X.prog X.w) X.A (f (.int i t) (.int j u)) Q E s) :
    OpR X f (rI C fun i j => .int (g i j)) := by
  intro pins s σ H x y v u Q I rx ry h
  obtain ⟨i, j, rfl, rfl, hc, q⟩ := h
  obtain ⟨t, rfl⟩ := rx
  obtain ⟨t', rfl⟩ := ry
  exact rule i j t t' s _ _ hc ⟨.int (g i j), H, I.tok _, ⟨_, rfl⟩, q⟩
theorem opI0 {f : Value → Value → Sem Value} {g : Int → Int → Int}
    (rule : ∀ (i j : Int) (t u : Tok) (s : Shared) (Q : Value → Shared → Prop) (E : Value → Shared → Prop), Q (.int (g i j) s.toks) { s with toks := s.toks + 1 } → wpAny (model X.prog X.w) X.A (f (.int i t) (.int j u)) Q E s) :
    OpR X f (rI0 fun i j => .int (g i j)) := by
  intro pins s σ H x y v u Q I rx ry h
  obtain ⟨i, j, rfl, rfl, q⟩ := h
  obtain ⟨t, rfl⟩ := rx
  obtain ⟨t', rfl⟩ := ry
  exact rule i j t t' s _ _ ⟨.int (g i j), H, I.tok _, ⟨_, rfl⟩, q⟩
theorem opB0 {f : Value → Value → Sem Value} {g : Int → Int → Bool}
    (rule : ∀ (i j : Int) (t u : Tok) (s : Shared) (Q : Value → Shared → Prop) (E : Value → Shared → Prop), Q (.bool (g i j)) s → wpAny (model X.prog X.w) X.A (f (.int i t) (.int j u)) Q E s) :
    OpR X f (rI0 fun i j => .bl (g i j)) := by
  intro pins s σ H x y v u Q I rx ry h
  obtain ⟨i, j, rfl, rfl, q⟩ := h
  obtain ⟨t, rfl⟩ := rx
  obtain ⟨t', rfl⟩ := ry
  exact rule i j t t' s _ _ ⟨.bl (g i j), H, I, rfl, q⟩

def CDiv (i j : Int) : Prop := 0 < j ∧ j < 1073741824
def CPow (i j : Int) : Prop := 0 ≤ j ∧ j ≤ 1000000 ∧ i.natAbs < 2 ^ 64
def CMul (i j : Int) : Prop := (-(2 ^ 64) < i ∧ i < 2 ^ 64) ∨ (-(2 ^ 64) < j ∧ j < 2 ^ 64)
theorem CMul.ok {i j : Int} (h : CMul i j) : IntMulOk i j := by
  rcases h with ⟨h1, h2⟩ | ⟨h1, h2⟩
  · exact .of_left (intBits_le_64 h1 h2)
  · exact .of_right (intBits_le_64 h1 h2)
theorem op_add : OpR X (binaryOp .Add) (rI0 fun i j => .int (i + j)) := opI0 fun _ _ _ _ _ _ _ q => add_int q
theorem op_sub : OpR X (binaryOp .Sub) (rI0 fun i j => .int (i - j)) := opI0 fun _ _ _ _ _ _ _ q => sub_int q
theorem op_mul : OpR X (binaryOp .Mult) (rI CMul fun i j => .int (i * j)) := opI fun _ _ _ _ _ _ _ hc q => mul_int q hc.ok
theorem op_fdiv : OpR X (binaryOp .FloorDiv) (rI CDiv fun i j => .int (i / j)) := opI fun i j _ _ _ _ _ hc q => by
  have h1 : (0 : Int) < j := hc.1
  have h2 : j < 1073741824 := hc.2
  exact floordiv_int (by omega) (by rw [Int.fdiv_eq_ediv_of_nonneg i (by omega)]; exact q) (.inl (PyProof.noPylong_small (by omega)))
theorem op_mod : OpR X (binaryOp .Mod) (rI (fun _ j => 0 < j) fun i j => .int (i % j)) := opI fun i j _ _ _ _ _ hc q => by
  have h1 : (0 : Int) < j := hc
  exact mod_int' (by omega) (by rw [Int.fmod_eq_emod_of_nonneg i (by omega)]; exact q)
theorem op_pow : OpR X (binaryOp .Pow) (rI CPow fun i j => .int (i ^ j.toNat)) := opI fun _ _ _ _ _ _ _ hc q => pow_int_small hc.1 hc.2.1 hc.2.2 q
theorem unI {f : Value → Sem Value} {g : Int → Int}
    (rule : ∀ (i : Int) (t : Tok) (s : Shared) (Q : Value → Shared → Prop) (E : Value → Shared → Prop), Q (.int (g i) s.toks) { s with toks := s.toks + 1 } → wpAny (model X.prog X.w) X.A (f (.int i t)) Q E s) :
    UnR X f (rU fun i => .int (g i)) := by
  intro pins s σ H x v Q I rx h
  obtain ⟨i, rfl, q⟩ := h
  obtain ⟨t, rfl⟩ := rx
  exact rule i t s _ _ ⟨.int (g i), H, I.tok _, ⟨_, rfl⟩, q⟩
theorem un_neg : UnR X (unaryOp .USub) (rU fun i => .int (-i)) := unI fun _ _ _ _ _ q => neg_int q
end

def scal : V → V → Bool
  | .non, .non => true | .non, .int _ => true | .int _, .non => true | .non, .bl _ => true | .bl _, .non => true | .non, .str _ => true | .str _, .non => true
  | .int _, .int _ => true | .bl _, .bl _ => true | .str _, .str _ => true | .byt _, .byt _ => true
  | .int _, .str _ => true | .str _, .int _ => true | .bl _, .str _ => true | .str _, .bl _ => true
  | _, _ => false
def rNe : R2 := fun x y H Q => scal x y = true ∧ Q (.bl (!decide (x = y))) H

theorem dec_int {i j : Int} : decide (V.int i = V.int j) = (i == j) := by
  rw [Bool.eq_iff_iff]
  simp
theorem dec_bl {i j : Bool} : decide (V.bl i = V.bl j) = (i == j) := by
  rw [Bool.eq_iff_iff]
  simp
theorem dec_str {i j : Str} : decide (V.str i = V.str j) = (i == j) := by
  rw [Bool.eq_iff_iff]
  simp
theorem dec_byt {i j : Array UInt8} : decide (V.byt i = V.byt j) = (i.toList == j.toList) := by
  rw [Bool.eq_iff_iff]
  cases i
  cases j
  simp

section
variable {X : Cx} {a b c : Expr} {ta tb tc : TE} {pos : Pos}
theorem fin_bl {pins : List (Addr × Obj)} {σ : St} {H : Hp} {s : Shared} {Q : VK} {k k' : Bool} (I : Inv X pins σ H s) (q : Q (.bl k) H) (e : k = k') : EP X pins σ Q (.bool k') s := by
  subst e
  exact ⟨.bl k, H, I, rfl, q⟩
theorem op_ne : OpR X (compareOp .NotEq) rNe := by
  intro pins s σ H x y v u Q I rx ry h
  obtain ⟨hs, q⟩ := h
  cases x with
  | non =>
    cases rx
    cases y with
    | non => cases ry; exact PySem.EqNone.ne_none_none (fin_bl I q (by simp))
    | bl j => cases ry; exact PySem.EqNone.ne_none_bool (fin_bl I q (by simp))
    | int j => obtain ⟨t', rfl⟩ := ry; exact PySem.EqNone.ne_none_int (fin_bl I q (by simp))
    | str j => obtain ⟨t', rfl⟩ := ry; exact PySem.EqNone.ne_none_str (fin_bl I q (by simp))
    | _ => exact absurd (show false = true from hs) Bool.false_ne_true
  | bl i =>
    cases rx
    cases y with
    | non => cases ry; exact PySem.EqNone.ne_bool_none (fin_bl I q (by simp))
    | bl j => cases ry; exact ne_bool (fin_bl I q (congrArg not dec_bl))
    | str j => obtain ⟨t', rfl⟩ := ry; exact PySem.EqMixed.ne_bool_str (fin_bl I q (by simp))
    | _ => exact absurd (show false = true from hs) Bool.false_ne_true
  | int i =>
    obtain ⟨t, rfl⟩ := rx
    cases y with
    | non => cases ry; exact PySem.EqNone.ne_int_none (fin_bl I q (by simp))
    | int j => obtain ⟨t', rfl⟩ := ry; exact ne_int (fin_bl I q (congrArg not dec_int))
    | str j => obtain ⟨t', rfl⟩ := ry; exact PySem.EqMixed.ne_int_str (fin_bl I q (by simp))
    | _ => exact absurd (show false = true from hs) Bool.false_ne_true
  | str i =>
    obtain ⟨t, rfl⟩ := rx
    cases y with
    | non => cases ry; exact PySem.EqNone.ne_str_none (fin_bl I q (by simp))
    | bl j => cases ry; exact PySem.EqMixed.ne_str_bool (fin_bl I q (by simp))
    | int j => obtain ⟨t', rfl⟩ := ry; exact PySem.EqMixed.ne_str_int (fin_bl I q (by simp))
    | str j => obtain ⟨t', rfl⟩ := ry; exact ne_str (fin_bl I q (congrArg not dec_str))
    | _ => exact absurd (show false = true from hs) Bool.false_ne_true
  | byt i =>
    obtain ⟨t, rfl⟩ := rx
    cases y with
    | byt j => obtain ⟨t', rfl⟩ := ry; exact PySem.W.ne_bytes (fin_bl I q (congrArg not dec_byt))
    | _ => exact absurd (show false = true from hs) Bool.false_ne_true
  | _ => cases y <;> exact absurd (show false = true from hs) Bool.false_ne_true

theorem op_lt : OpR X (compareOp .Lt) (rI0 fun i j => .bl (decide (i < j))) := opB0 fun _ _ _ _ _ _ _ q => lt_int q
theorem op_le : OpR X (compareOp .LtE) (rI0 fun i j => .bl (decide (i ≤ j))) := opB0 fun _ _ _ _ _ _ _ q => le_int q
theorem op_ge : OpR X (compareOp .GtE) (rI0 fun i j => .bl (decide (j ≤ i))) := opB0 fun _ _ _ _ _ _ _ q => ge_int q
theorem op_in_str : OpR X (compareOp .In) (fun x y H Q => ∃ i j, x = .str i ∧ y = .str j ∧ Q (.bl (!(Builtin.Str.occurrences j i 0 j.length 1).isEmpty)) H) := by
  intro pins s σ H x y v u Q I rx ry h
  obtain ⟨i, j, rfl, rfl, q⟩ := h
  obtain ⟨t, rfl⟩ := rx
  obtain ⟨t', rfl⟩ := ry
  exact in_str (fin_bl I q rfl)

theorem op_isN : OpR X (compareOp .Is) (fun x y H Q => y = .non ∧ Q (.bl (decide (x = .non))) H) := by
  intro pins s σ H x y v u Q I rx ry h
  obtain ⟨rfl, q⟩ := h
  cases ry
  refine is_none_gen (fin_bl I q ?_)
  cases x <;> first
    | (cases rx; rfl)
    | (obtain ⟨t, rfl⟩ := rx; rfl)
theorem op_notN : OpR X (compareOp .IsNot) (fun x y H Q => y = .non ∧ Q (.bl (!decide (x = .non))) H) := by
  intro pins s σ H x y v u Q I rx ry h
  obtain ⟨rfl, q⟩ := h
  cases ry
  refine isnot_none_gen (fin_bl I q ?_)
  cases x <;> first
    | (cases rx; rfl)
    | (obtain ⟨t, rfl⟩ := rx; rfl)

theorem OpR.or {f : Value → Value → Sem Value} {r r' : R2} (h : OpR X f r) (h' : OpR X f r') : OpR X f (fun x y H Q => r x y H Q ∨ r' x y H Q) := by
  intro pins s σ H x y v u Q I rx ry q
  rcases q with q | q
  · exact h pins s σ H x y v u Q I rx ry q
  · exact h' pins s σ H x y v u Q I rx ry q

theorem nomark (b : Expr) {op : CmpOp} (h : op ≠ .In := by decide) (h2 : op ≠ .NotIn := by decide) : behindInMarks op b = false := by
  have e1 : (op == CmpOp.In) = false := by cases op <;> first | rfl | exact absurd rfl h
  have e2 : (op == CmpOp.NotIn) = false := by cases op <;> first | rfl | exact absurd rfl h2
  cases b <;> simp [behindInMarks, e1, e2]
theorem pe_cmpR {op : CmpOp} {r : R2} (ho : OpR X (compareOp op) r) (ha : PE X a ta) (hb : PE X b tb) (hm : behindInMarks op b = false) : PE X (.Compare a [op] [b] pos) (tOp r ta tb) := by
  intro pins s σ H Q I h
  exact wpAny_Compare1 (binT ha hb I h fun v u s2 x y H2 I2 rx ry q => ho pins s2 σ H2 x y v u Q I2 rx ry q) hm
def tTest (t : TE) : TT := fun σ H Q => t σ H fun x H' => ∃ k, x = .bl k ∧ Q k H'
theorem pt_cmpR {op : CmpOp} {r : R2} (ho : OpR X (compareOp op) r) (ha : PE X a ta) (hb : PE X b tb) (hm : behindInMarks op b = false) : PT X (.Compare a [op] [b] pos) (tTest (tOp r ta tb)) := by
  intro pins s σ H Q I h
  refine wpAny_isTrue_Compare1 (thn (ha pins s σ H _ I h) fun v s1 ⟨x, H1, I1, r1, q1⟩ => thn (hb pins s1 σ H1 _ I1 q1) fun u s2 ⟨y, H2, I2, r2, q2⟩ =>
    thn (ho pins s2 σ H2 x y v u _ I2 r1 r2 q2) fun c s3 ⟨z, H3, I3, r3, k, e, q3⟩ => ?_) hm
  subst e
  cases r3
  exact wpAny_truthy_bool ⟨H3, I3, q3⟩
def tChain (r r' : R2) (ta tb tc : TE) : TE := fun σ H Q => ta σ H fun x H1 => tb σ H1 fun y H2 => r x y H2 fun z H3 => ∃ k, z = .bl k ∧
  (if k = true then tc σ H3 fun w' H4 => r' y w' H4 Q else Q (.bl false) H3)
theorem pe_chain {op op' : CmpOp} {r r' : R2} (ho : OpR X (compareOp op) r) (ho' : OpR X (compareOp op') r') (ha : PE X a ta) (hb : PE X b tb) (hc : PE X c tc)
    (hm : lastMarks [op, op'] [b, c] = false := by with_unfolding_all rfl) : PE X (.Compare a [op, op'] [b, c] pos) (tChain r r' ta tb tc) := by
  intro pins s σ H Q I h
  refine Compare_chain (thn (ha pins s σ H _ I h) fun v s1 ⟨x, H1, I1, r1, q1⟩ => chain_link (thn (hb pins s1 σ H1 _ I1 q1) fun u s2 ⟨y, H2, I2, r2, q2⟩ =>
    thn (ho pins s2 σ H2 x y v u _ I2 r1 r2 q2) fun d s3 ⟨z, H3, I3, r3, k, e, q3⟩ => ?_)) hm
  subst e
  cases r3
  refine wpAny_truthy_bool ?_
  cases k with
  | false => exact ite_ff ⟨.bl false, H3, I3, rfl, q3⟩
  | true => exact ite_tt (chain_last (thn (hc pins s3 σ H3 _ I3 q3) fun w' s4 ⟨z', H4, I4, r4, q4⟩ => ho' pins s4 σ H4 y z' u w' Q I4 r2 r4 q4))
theorem pt_chain {op op' : CmpOp} {r r' : R2} (ho : OpR X (compareOp op) r) (ho' : OpR X (compareOp op') r') (ha : PE X a ta) (hb : PE X b tb) (hc : PE X c tc)
    (hm : lastMarks [op, op'] [b, c] = false := by with_unfolding_all rfl) : PT X (.Compare a [op, op'] [b, c] pos) (tTest (tChain r r' ta tb tc)) := by
  intro pins s σ H Q I h
  refine isTrue_chain (thn (ha pins s σ H _ I h) fun v s1 ⟨x, H1, I1, r1, q1⟩ => test_link (thn (hb pins s1 σ H1 _ I1 q1) fun u s2 ⟨y, H2, I2, r2, q2⟩ =>
    thn (ho pins s2 σ H2 x y v u _ I2 r1 r2 q2) fun d s3 ⟨z, H3, I3, r3, k, e, q3⟩ => ?_)) hm
  subst e
  cases r3
  refine wpAny_truthy_bool ?_
  cases k with
  | false =>
    obtain ⟨k', e', q'⟩ := q3
    cases e'
    exact ite_ff ⟨H3, I3, q'⟩
  | true =>
    refine ite_tt (test_last (thn (hc pins s3 σ H3 _ I3 q3) fun w' s4 ⟨z', H4, I4, r4, q4⟩ => thn (ho' pins s4 σ H4 y z' u w' _ I4 r2 r4 q4) fun d' s5 ⟨z2, H5, I5, r5, k2, e2, q5⟩ => ?_))
    subst e2
    cases r5
    exact wpAny_truthy_bool ⟨H5, I5, q5⟩

def TruV (K : PySem.W.Frag) (x : V) (H : Hp) (k : Bool) : Prop :=
  match x with
  | .non => k = false
  | .bl b => k = b
  | .int i => k = (i != 0)
  | .str y => y.length ≤ sizeLine ∧ k = ((y.length : Int) != 0)
  | .byt y => y.size ≤ sizeLine ∧ k = ((y.size : Int) != 0)
  | .ref p => (∃ xs, SqL K H p xs ∧ k = !xs.isEmpty) ∨ (∃ xs, SqT K H p xs ∧ k = !xs.isEmpty) ∨ ∃ kvs, H p = some (.dK kvs) ∧ k = !kvs.isEmpty
  | _ => False
theorem isEmpty_kv {κ : Type} {kvs : List (κ × V)} {vs : List (κ × Value)} (r : KV kvs vs) : (!vs.isEmpty) = !kvs.isEmpty := by
  cases r <;> rfl
theorem isEmpty_of {xs : List V} {its : List Value} (r : Vals xs its) : (!its.toArray.isEmpty) = !xs.isEmpty := by
  cases r <;> simp
theorem line63 : (sizeLine : Nat) < 2 ^ 63 := by rw [sizeLine_eq]; decide
theorem tru_ok : TruR X (fun x H Q => ∃ k, TruV X.K x H k ∧ Q k H) := by
  intro pins s σ H x v Q I rx h
  obtain ⟨k, e, q⟩ := h
  have hl := line63
  have hs : sizeLine = 16777216 := sizeLine_eq
  cases x with
  | non =>
    cases rx
    have e' : k = false := e
    subst e'
    exact truthy_none ⟨H, I, q⟩
  | bl b =>
    cases rx
    have e' : k = b := e
    subst e'
    exact wpAny_truthy_bool ⟨H, I, q⟩
  | int i =>
    obtain ⟨t, rfl⟩ := rx
    have e' : k = (i != 0) := e
    subst e'
    exact PySem.P.truthy_int ⟨H, I, q⟩
  | str y =>
    obtain ⟨t, rfl⟩ := rx
    obtain ⟨hy, e'⟩ : y.length ≤ sizeLine ∧ k = ((y.length : Int) != 0) := e
    subst e'
    exact PySem.P.truthy_str (by omega) ⟨H, I.tok _, q⟩
  | byt y =>
    obtain ⟨t, rfl⟩ := rx
    obtain ⟨hy, e'⟩ : y.size ≤ sizeLine ∧ k = ((y.size : Int) != 0) := e
    subst e'
    exact PySem.W.truthy_bytes (by omega) ⟨H, I.tok _, q⟩
  | ref p =>
    cases rx
    have e' : (∃ xs, SqL X.K H p xs ∧ k = !xs.isEmpty) ∨ (∃ xs, SqT X.K H p xs ∧ k = !xs.isEmpty) ∨ ∃ kvs, H p = some (.dK kvs) ∧ k = !kvs.isEmpty := e
    rcases e' with ⟨xs, hx, e'⟩ | ⟨xs, hx, e'⟩ | ⟨kvs, hx, e'⟩
    · subst e'
      obtain ⟨its, r, pl, hz⟩ := I.list hx
      have hlen := r.length
      exact wpAny_truthy_list pl.isList (by simp only [List.size_toArray]; omega) ⟨H, I.tok _, by rw [isEmpty_of r]; exact q⟩
    · subst e'
      obtain ⟨its, r, pl, hz⟩ := I.tuple hx
      have hlen := r.length
      exact truthy_tuple pl (by simp only [List.size_toArray]; omega) ⟨H, I.tok _, by rw [isEmpty_of r]; exact q⟩
    · subst e'
      obtain ⟨hz, hS, vs, r, m⟩ : kvs.length ≤ sizeLine ∧ (p == sysModules) = false ∧ ∃ vs, KV kvs vs ∧ s.heap.DictOf (mixKind X.prog X.w) p vs := I.hok p _ hx
      have hlen : kvs.length = vs.length := Paired.length r
      exact wpAny_truthy_dict hS m (by omega) ⟨H, I.tok _, by rw [isEmpty_kv r]; exact q⟩
  | _ => exact (show False from e).elim
theorem pt_truth (ha : PE X a ta) (he : ∀ whole, isTrue a X.env whole = (do let v ← whole; standAt a.pos; holding [v] (truthy v))) :
    PT X a (fun σ H Q => ta σ H fun x H' => ∃ k, TruV X.K x H' k ∧ Q k H') := by
  intro pins s σ H Q I h
  exact isTrue_plain (thn (ha pins s σ H _ I h) fun v s1 ⟨x, H1, I1, r1, q1⟩ => tru_ok pins s1 σ H1 x v Q I1 r1 q1) (he _)

theorem op_add_str : OpR X (binaryOp .Add) (fun x y H Q => ∃ i j, x = .str i ∧ y = .str j ∧ i.length + j.length ≤ sizeLine ∧ Q (.str (i ++ j)) H) := by
  intro pins s σ H x y v u Q I rx ry h
  obtain ⟨i, j, rfl, rfl, hz, q⟩ := h
  obtain ⟨t, rfl⟩ := rx
  obtain ⟨t', rfl⟩ := ry
  exact add_str (fun t' tk => ⟨.str (i ++ j), H, I.tok _, ⟨_, rfl⟩, q⟩) hz
theorem vals1 {x : V} {us : List Value} (r : Vals [x] us) : ∃ u, us = [u] ∧ RelV x u := by
  cases r with
  | cons r1 r2 => cases r2; exact ⟨_, rfl, r1⟩
theorem vals2 {x y : V} {us : List Value} (r : Vals [x, y] us) : ∃ u w', us = [u, w'] ∧ RelV x u ∧ RelV y w' := by
  cases r with
  | cons r1 r2 =>
    cases r2 with
    | cons r3 r4 => cases r4; exact ⟨_, _, rfl, r1, r3⟩
theorem call_abs : CallR X (.builtin "abs") (fun xs H Q => ∃ i, xs = [.int i] ∧ Q (.int (if i < 0 then -i else i)) H) := by
  intro pins s σ H xs us Q I r h
  obtain ⟨i, rfl, q⟩ := h
  obtain ⟨u, rfl, t, rfl⟩ := vals1 r
  exact call_abs_int fun u tk => ⟨.int (if i < 0 then -i else i), H, I.tok _, ⟨_, rfl⟩, q⟩
theorem call_str_int : CallR X (.type "str") (fun xs H Q => ∃ i, xs = [.int i] ∧ i.natAbs.log2 < 1920 ∧ Q (.str (toString i)) H) := by
  intro pins s σ H xs us Q I r h
  obtain ⟨i, rfl, hz, q⟩ := h
  obtain ⟨u, rfl, t, rfl⟩ := vals1 r
  exact PySem.P.str_of_int hz ⟨.str _, H, I.tok _, ⟨_, rfl⟩, q⟩
theorem call_ord : CallR X (.builtin "ord") (fun xs H Q => ∃ x, xs = [.str x] ∧ x.length = 1 ∧ Q (.int (x.cps.getD 0 0 : Nat)) H) := by
  intro pins s σ H xs us Q I r h
  obtain ⟨x, rfl, hz, q⟩ := h
  obtain ⟨u, rfl, t, rfl⟩ := vals1 r
  exact ord_of_one hz ⟨.int _, H, I.tok _, ⟨_, rfl⟩, q⟩
def LenV (K : PySem.W.Frag) (x : V) (H : Hp) (n : Nat) : Prop :=
  match x with
  | .str y => y.length ≤ sizeLine ∧ n = y.length
  | .byt y => y.size ≤ sizeLine ∧ n = y.size
  | .ref p => (∃ xs, SqL K H p xs ∧ n = xs.length) ∨ ∃ xs, SqT K H p xs ∧ n = xs.length
  | _ => False
theorem call_len : CallR X (.builtin "len") (fun xs H Q => ∃ x n, xs = [x] ∧ LenV X.K x H n ∧ Q (.int n) H) := by
  intro pins s σ H xs us Q I r h
  obtain ⟨x, n, rfl, e, q⟩ := h
  obtain ⟨u, rfl, rx⟩ := vals1 r
  have hl := line63
  have hs : sizeLine = 16777216 := sizeLine_eq
  cases x with
  | str y =>
    obtain ⟨t, rfl⟩ := rx
    obtain ⟨hy, e'⟩ : y.length ≤ sizeLine ∧ n = y.length := e
    subst e'
    exact len_str (by omega) ⟨.int _, H, I.tok _, ⟨_, rfl⟩, q⟩
  | byt y =>
    obtain ⟨t, rfl⟩ := rx
    obtain ⟨hy, e'⟩ : y.size ≤ sizeLine ∧ n = y.size := e
    subst e'
    exact PySem.W.len_bytes (by omega) ⟨.int _, H, I.tok _, ⟨_, rfl⟩, q⟩
  | ref p =>
    cases rx
    have e' : (∃ xs, SqL X.K H p xs ∧ n = xs.length) ∨ ∃ xs, SqT X.K H p xs ∧ n = xs.length := e
    rcases e' with ⟨xs, hx, e'⟩ | ⟨xs, hx, e'⟩
    · subst e'
      obtain ⟨its, r', pl, hz⟩ := I.list hx
      have hlen := r'.length
      exact Calls.call_len_list pl.isList (by simp only [List.size_toArray]; omega) ⟨.int xs.length, H, I.tok _, ⟨_, by simp only [List.size_toArray]; rw [hlen]⟩, q⟩
    · subst e'
      obtain ⟨its, r', pl, hz⟩ := I.tuple hx
      have hlen := r'.length
      exact len_tuple pl (by simp only [List.size_toArray]; omega) ⟨.int xs.length, H, I.tok _, ⟨_, by simp only [List.size_toArray]; rw [hlen]⟩, q⟩
  | _ => exact (show False from e).elim
end
end L2

namespace L2
open PySem PySem.Spec PyProof.Rows

structure ObjM (h : Heap) (x dx C : Addr) (mA : Str → Option Value) : Prop where
  obj : h.get? x = some (PySem.W.instObj C dx)
  ns : h.Ns1 dx mA
  ne : dx ≠ x

theorem lookIn_ns {h : Heap} {dx : Addr} {mA : Str → Option Value} (n : h.Ns1 dx mA) : ∃ od, h.get? dx = some od ∧ ∀ name, PySem.W.lookIn name od = some (mA name) := by
  obtain ⟨o, es, ep, ho, hd, hk, _, hm⟩ := n
  refine ⟨o, ho, fun name => ?_⟩
  have e := hm name
  unfold nsFind findBy at e
  rw [← Array.find?_toList] at e
  unfold PySem.W.lookIn
  rw [hd]
  dsimp only
  split
  · rename_i y q
    rw [q] at e
    exact congrArg some e
  · rename_i q
    rw [q] at e
    have a : es.toList.any (·.refKey) = false := by
      rw [List.any_eq_false]
      intro y hy
      obtain ⟨z, t, hkey⟩ := hk y (Array.mem_toList_iff.mp hy)
      simp [DictEntry.refKey, hkey]
    have a' : ¬ es.toList.any (·.refKey) = true := by rw [a]; exact Bool.false_ne_true
    rw [if_neg a']
    exact congrArg some e

theorem ObjM.look {h : Heap} {x dx C : Addr} {mA : Str → Option Value} (I : ObjM h x dx C mA) : ∃ od, PySem.W.InstAt h x (PySem.W.instObj C dx) C (some od) ∧ ∀ name, PySem.W.lookIn name od = some (mA name) :=
  let ⟨od, ho, hl⟩ := lookIn_ns I.ns
  ⟨od, ⟨I.obj, rfl, rfl, ho⟩, hl⟩

section
variable {prog : Program} {w : World} {A : Around} {E : Value → Shared → Prop} {s : Shared} {K : PySem.W.Frag} {x dx C f : Addr} {mA : Str → Option Value} {name : Str} {v : Value}

end

theorem RelO.some_of {v : V} {o : Option Value} (r : RelO (some v) o) : ∃ u, o = some u ∧ RelV v u := by
  cases o with
  | none => exact (show False from r).elim
  | some u => exact ⟨u, rfl, r⟩
section
variable {P : Program} {w : World} {H H' : Hp} {h h' : Heap} {a C dx : Addr} {fs fs' : List (Str × V)}
end

structure Cls (K : PySem.W.Frag) (C : Addr) : Prop where
  pg : PySem.W.plainGet K C Str.empty = true
  hd : PySem.W.hasDictIn K C = true
  po : PySem.W.plainOver K C = true
  sa : PySem.W.findIn K (.ref C) "__setattr__" = some (some (.builtin "object.__setattr__"))
theorem Cls.get {K : PySem.W.Frag} {C : Addr} (c : Cls K C) (f : Str) : PySem.W.plainGet K C f = true := c.pg
structure Con (K : PySem.W.Frag) (C : Addr) (f : Str) (v : V) (u : Value) : Prop where
  at_ : PySem.W.findIn K (.ref C) f = some (some u)
  rel : RelV v u
  get : PySem.W.specialIn K u "__get__" = some none
  cp : PySem.W.copiedNames.contains f = false
structure Meth (K : PySem.W.Frag) (C : Addr) (m : Str) (f : Addr) : Prop where
  at_ : PySem.W.findIn K (.ref C) m = some (some (.ref f))
  fn : PySem.W.isFn K (.ref f) = true
  kp : PySem.W.keepIn K (.ref f) = true

section
variable {X : Cx} {pins : List (Addr × Obj)} {σ : St} {H : Hp} {s : Shared} {a C dx : Addr} {fs : List (Str × V)} {f : Str} {v : V} {A : Around} {E : Value → Shared → Prop}

end

section
variable {X : Cx} {o e value : Expr} {f : Str} {pos pos' tpos : Pos} {ta tv : TE}
end

section
variable {X : Cx} {pins : List (Addr × Obj)} {σ : St} {H : Hp} {s : Shared} {A : Around} {E : Value → Shared → Prop} {Q : Value → Shared → Prop} {c : Value} {b : Bool}
inductive TyOf (K : PySem.W.Frag) (H : Hp) : V → Value → Prop where
  | non : TyOf K H .non (.type "NoneType")
  | bl (x : Bool) : TyOf K H (.bl x) (.type "bool")
  | int (i : Int) : TyOf K H (.int i) (.type "int")
  | str (x : Str) : TyOf K H (.str x) (.type "str")
  | flt (x : UInt64) : TyOf K H (.flt x) (.type "float")
  | lst {a : Addr} {xs : List V} (e : H a = some (.lst xs)) : TyOf K H (.ref a) (.type "list")
  | frz {a : Addr} {o : Obj} {xs : List V} (e : H a = some (.frz o (.lst xs))) : TyOf K H (.ref a) (.type "list")
  | tup {a : Addr} {xs : List V} (e : H a = some (.tup xs)) : TyOf K H (.ref a) (.type "tuple")
  | dK {a : Addr} {kvs : List (Key × V)} (e : H a = some (.dK kvs)) : TyOf K H (.ref a) (.type "dict")
  | dT {a : Addr} {kvs : List (List Key × V)} (e : H a = some (.dT kvs)) : TyOf K H (.ref a) (.type "dict")
  | ins {a C dx : Addr} {fs : List (Str × V)} (e : H a = some (.ins C dx fs)) (cl : Cls K C) (ha : PySem.W.findIn K (.ref C) "__class__" = some (some (.builtin "object.__class__")))
      (hn : PySem.W.specialIn K (.builtin "object.__class__") "__get__" = some (some (.builtin "getset_descriptor.__get__"))) (htk : PySem.W.takesIn K (.builtin "object.__class__") = some true)
      (hm : PySem.W.mroIn K C (.type "object") = some true) : TyOf K H (.ref a) (.ref C)
end
end L2

namespace L2
open PySem PySem.Spec PyProof.Rows

structure Room (k : Nat) (A : Around) : Prop where
  hd : A.handled = none
  dp : A.depth + 3 * k + 5 < recursionLimit
  un : A.units + 16 * k + 200 < cLine
theorem Room.mono {j k : Nat} {A : Around} (r : Room k A) (h : j ≤ k) : Room j A := ⟨r.hd, by have := r.dp; omega, by have := r.un; omega⟩
theorem Room.deeper {k : Nat} {A : Around} (r : Room (k + 1) A) (env : Env) : Room k (A.deeper env) :=
  ⟨r.hd, by have := r.dp; show A.depth + 1 + 3 * k + 5 < _; omega, by have := r.un; show A.units + 3 + 16 * k + 200 < _; omega⟩
theorem Room.in1 {k : Nat} {A : Around} (r : Room (k + 1) A) : Room k A.in1 :=
  ⟨r.hd, by have := r.dp; show A.depth + 3 * k + 5 < _; omega, by have := r.un; show A.units + 1 + 16 * k + 200 < _; omega⟩
theorem Room.depth {k : Nat} {A : Around} (r : Room k A) : A.depth < recursionLimit := by have := r.dp; omega
theorem Room.units {k : Nat} {A : Around} (r : Room k A) : A.units + 64 < cLine := by have := r.un; omega
def tNil : TA := fun _ H Q => Q [] H
def tCons (ta : TE) (tr : TA) : TA := fun σ H Q => ta σ H fun x H1 => tr σ H1 fun xs H2 => Q (x :: xs) H2
section
variable {X : Cx} {e : Expr} {es : List Expr} {te : TE} {t : TA} {pos : Pos}
theorem pa_nil : PA X [] tNil := fun _ _ _ _ H Q I h => Calls.spliced_nil ⟨[], H, I, .nil, h⟩
theorem pa_cons (ha : PE X e te) (hr : PA X es t) (hs : starEach (e :: es) X.env = (false, eval e X.env) :: starEach es X.env := by rfl) : PA X (e :: es) (tCons te t) := by
  intro pos pins s σ H Q I h
  rw [hs]
  show wpAny _ _ (spliced ((false, eval e X.env) :: backTo pos (starEach es X.env))) _ _ s
  refine Calls.spliced_cons (thn (ha pins s σ H _ I h) fun u s1 ⟨x, H1, I1, r1, q1⟩ => ?_)
  exact thn (hr pos pins s1 σ H1 _ I1 q1) fun us s2 ⟨xs, H2, I2, r2, q2⟩ => ⟨x :: xs, H2, I2, .cons r1 r2, q2⟩

def tTup (t : TA) : TE := fun σ H Q => t σ H fun xs H1 => xs.length ≤ sizeLine ∧ ∀ p, H1 p = none → Q (.ref p) (upd H1 p (.tup xs))
def tLst (t : TA) : TE := fun σ H Q => t σ H fun xs H1 => xs.length ≤ sizeLine ∧ ∀ p, H1 p = none → Q (.ref p) (upd H1 p (.lst xs))
theorem pe_tup {x1} (h : PA X es t) : PE X (.Tuple es x1 pos) (tTup t) := by
  intro pins s σ H Q I hq
  refine wpAny_Tuple_spliced (thn (h pos pins s σ H _ I hq) fun us s1 ⟨xs, H1, I1, r, z, q⟩ => ⟨by rw [← r.length]; exact z, ?_⟩)
  have hf : H1 s1.heap.objs.size = none := I1.hok.fresh (Nat.le_refl _)
  refine ⟨.ref s1.heap.objs.size, upd H1 s1.heap.objs.size (.tup xs), I1.laid (t' := s1.toks) (fun b u e => Heap.get?_push_of_some _ e) (Nat.le_refl _) ?_, rfl, q _ hf⟩
  exact ⟨z, us, r, ⟨_, Heap.get?_push_size _ rfl, rfl, _, rfl⟩⟩
theorem pe_lst (h : PA X es t) : PE X (.List es pos) (tLst t) := by
  intro pins s σ H Q I hq
  refine wpAny_List_spliced (thn (h pos pins s σ H _ I hq) fun us s1 ⟨xs, H1, I1, r, z, q⟩ => ⟨by rw [← r.length]; exact z, ?_⟩)
  have hf : H1 s1.heap.objs.size = none := I1.hok.fresh (Nat.le_refl _)
  refine ⟨.ref s1.heap.objs.size, upd H1 s1.heap.objs.size (.lst xs), I1.laid (t' := s1.toks) (fun b u e => Heap.get?_push_of_some _ e) (Nat.le_refl _) ?_, rfl, q _ hf⟩
  exact ⟨z, us, 0, r, Heap.get?_push_size _ rfl⟩
end

abbrev Sp := List V → Hp → VK → XK → Prop
abbrev CXT := List Env → Hp → Shared → XK → Value → Shared → Prop

structure Env0 (P : Program) (w : World) (K : PySem.W.Frag) (mg : Str → Option Value) (base : Heap) (A : Around) (outer : List Env) (s : Shared) (H : Hp) : Prop where
  frames : A.frames = some outer
  mod : Mod K mg base
  bs : ∀ b o, base.get? b = some o → s.heap.get? b = some o ∧ H b = none
  bsz : base.objs.size ≤ s.heap.objs.size
  funs : s.heap.FunFrames base outer
  frf : ∀ b ∈ frs outer, H b = none
  hok : HOk P w H s.heap
  bare : AllBare s.gens
def CE (outer : List Env) (P : Program) (w : World) (H : Hp) (s : Shared) (Q : VK) (u : Value) (s' : Shared) : Prop :=
  ∃ v H', s'.os = s.os ∧ AllBare s'.gens ∧ Un (frs outer) [] H H' s.heap s'.heap ∧ HOk P w H' s'.heap ∧ RelV v u ∧ Q v H'
def CR (CX : CXT) (outer : List Env) (P : Program) (w : World) (H : Hp) (s : Shared) (Q : VK) (E : XK) (r : Result) (s' : Shared) : Prop :=
  match r with
  | .ok (.ret u) => CE outer P w H s Q u s'
  | .ok _ => False
  | .error e => CX outer H s E e s'
structure FnOk (P : Program) (w : World) (K : PySem.W.Frag) (mg : Str → Option Value) (base : Heap) (CX : CXT) (k : Nat) (f : Addr) (fd : FuncData) (ps : List Str) (sp : Sp) : Prop where
  len : ∀ vs H Q E, sp vs H Q E → vs.length = ps.length
  run : ∀ (A : Around) (outer : List Env) (s : Shared) (H : Hp) (args : Args) (us : List Value) (vs : List V) (Q : VK) (E : XK), Room k A → Env0 P w K mg base A outer s H → BindsTo s fd args (ps.zip us) → Vals vs us → sp vs H Q E →
    codeAny (model P w) A (.call (.ref f) args) (CR CX outer P w H s Q E) s
theorem FnOk.mono {P : Program} {w : World} {K : PySem.W.Frag} {mg : Str → Option Value} {base : Heap} {CX : CXT} {j k : Nat} {f : Addr} {fd : FuncData} {ps : List Str} {sp : Sp} (F : FnOk P w K mg base CX j f fd ps sp) (h : j ≤ k) :
    FnOk P w K mg base CX k f fd ps sp := ⟨F.len, fun A outer s H args us vs Q E hr => F.run A outer s H args us vs Q E (hr.mono h)⟩
theorem FnOk.imp {P : Program} {w : World} {K : PySem.W.Frag} {mg : Str → Option Value} {base : Heap} {CX : CXT} {k : Nat} {f : Addr} {fd : FuncData} {ps : List Str} {sp sp' : Sp} (F : FnOk P w K mg base CX k f fd ps sp)
    (h : ∀ vs H Q E, sp' vs H Q E → sp vs H Q E) : FnOk P w K mg base CX k f fd ps sp' :=
  ⟨fun vs H Q E q => F.len vs H Q E (h _ _ _ _ q), fun A outer s H args us vs Q E hr he hb hv hs => F.run A outer s H args us vs Q E hr he hb hv (h _ _ _ _ hs)⟩

theorem Env0.in1 {P : Program} {w : World} {K : PySem.W.Frag} {mg : Str → Option Value} {base : Heap} {A : Around} {outer : List Env} {s : Shared} {H : Hp} (e : Env0 P w K mg base A outer s H) :
    Env0 P w K mg base A.in1 outer s H := ⟨e.frames, e.mod, e.bs, e.bsz, e.funs, e.frf, e.hok, e.bare⟩

section
variable {X : Cx} {pins : List (Addr × Obj)} {σ : St} {H : Hp} {s s' : Shared}
theorem Inv.env0 (I : Inv X pins σ H s) : Env0 X.prog X.w X.K X.mg X.base X.A X.stack s H :=
  ⟨I.ok.frames, I.ok.mod, I.bs, Nat.le_trans I.ok.bsz I.sz, I.stack, I.stkFree, I.hok, I.bare⟩
theorem Inv.after {Q : VK} {u : Value} (I : Inv X pins σ H s) (h : CE X.stack X.prog X.w H s Q u s') : EP X pins σ Q u s' := by
  obtain ⟨v, H', os, bare, un, hok, r, q⟩ := h
  obtain ⟨hh, g, d, t, os'⟩ := s'
  obtain rfl : os' = s.os := os
  exact ⟨v, H', I.call (h' := hh) (g' := g) (d' := d) (t' := t) (ch := []) un hok bare (fun b z => absurd z (by simp)), r, q⟩
end

def tCall (sp : Sp) (dvs : List V) (E : XK) (t : TA) : TE := fun σ H Q => t σ H fun vs H1 => sp (vs ++ dvs) H1 Q E
def Binds (K : PySem.W.Frag) (fd : FuncData) (ps : List Str) (ds : List Value) : Prop :=
  ∀ (s : Shared) (us : List Value), K.In s.heap → (us ++ ds).length = ps.length → BindsTo s fd ⟨us, []⟩ (ps.zip (us ++ ds))
theorem Binds.all {K : PySem.W.Frag} {fd : FuncData} {ps : List Str} (h : ∀ us : List Value, us.length = ps.length → bindArgs fd ⟨us, []⟩ = pure (ps.zip us)) : Binds K fd ps [] := fun s us _ hl => by
  rw [List.append_nil] at hl ⊢
  exact .of_eq (h us hl)

def Passes (CX : CXT) (X : Cx) (E : XK) : Prop := ∀ (pins : List (Addr × Obj)) (σ : St) (H : Hp) (s : Shared) (e : Value) (s' : Shared), Inv X pins σ H s → CX X.stack H s E e s' → X.xe e s'

section
variable {X : Cx} {CX : CXT} {k : Nat} {f C : Addr} {fd : FuncData} {ps : List Str} {sp : Sp} {dvs : List V} {ds : List Value} {E : XK} {x m : Str} {p pos apos : Pos} {e o : Expr} {es : List Expr} {ta : TE} {t : TA}

theorem run_fn {pins : List (Addr × Obj)} {σ : St} {H : Hp} {s : Shared} {Q : VK} {us : List Value} {vs : List V} (F : FnOk X.prog X.w X.K X.mg X.base CX k f fd ps sp) (hr : Room k X.A) (hb : Binds X.K fd ps ds) (hd : Vals dvs ds) (hx : Passes CX X E)
    (I : Inv X pins σ H s) (r : Vals vs us) (h : sp (vs ++ dvs) H Q E) : wpAny (model X.prog X.w) X.A (call (.ref f) us) (EP X pins σ Q) X.xe s := by
  have r2 : Vals (vs ++ dvs) (us ++ ds) := r.append hd
  have hl : (us ++ ds).length = ps.length := by rw [← r2.length]; exact F.len _ _ _ _ h
  refine wpAny_call (codeAny_mono (F.run X.A X.stack s H ⟨us, []⟩ (us ++ ds) (vs ++ dvs) Q E hr I.env0 (hb s us I.kIn hl) r2 h) fun r s' hq => ?_)
  cases r with
  | error e => exact hx pins σ H s e s' I hq
  | ok fl =>
    cases fl with
    | ret u => exact I.after hq
    | next => exact False.elim hq
    | brk => exact False.elim hq
    | cont => exact False.elim hq

theorem pe_call (F : FnOk X.prog X.w X.K X.mg X.base CX k f fd ps sp) (hr : Room k X.A) (hg : Gl X x) (hm : X.mg x = some (.ref f)) (hk : PySem.W.keepIn X.K (.ref f) = true) (hb : Binds X.K fd ps ds) (hd : Vals dvs ds) (hx : Passes CX X E)
    (ha : PA X (e :: es) t) (hdb : (x == ("__debug__" : Str)) = false := by decide) (he : starEach (e :: es) X.env = (false, eval e X.env) :: starEach es X.env := by rfl) (hpl : (backTo pos (starEach es X.env)).any (·.1) = false := by rfl) :
    PE X (.Call (.Name x p) (e :: es) [] pos) (tCall sp dvs E t) := by
  intro pins s σ H Q I h
  refine wpAny_Call_Name_kw (ld_glob I hg hm ?_ hdb)
  refine PySem.W.callWith_K (h₀ := X.base) I.ok.mod.kin hk (thn (ha pos pins s σ H _ I h) fun us s1 ⟨vs, H1, I1, r, q⟩ => ⟨I1.kIn, ?_⟩) he hpl
  exact run_fn F hr hb hd hx I1 r q
structure Mk (K : PySem.W.Frag) (C f : Addr) : Prop where
  makes : PySem.W.makesIn K C = true
  init : PySem.W.findIn K (.ref C) "__init__" = some (some (.ref f))
  fn : PySem.W.isFn K (.ref f) = true
  kp : PySem.W.keepIn K (.ref C) = true

end

section
variable {X : Cx} {CX : CXT} {k : Nat} {f C : Addr} {fd : FuncData} {ps ks : List Str} {sp : Sp} {E : XK} {x m : Str} {p pos apos kpos : Pos} {e o : Expr} {es : List Expr} {kws : List Keyword} {te ta : TE} {t tk : TA} {nm : Option Str}
structure KBinds (K : PySem.W.Frag) (fd : FuncData) (ps ks : List Str) (g : List Value → List Value → List Value) (gV : List V → List V → List V) : Prop where
  to : ∀ (s : Shared) (us ws : List Value), K.In s.heap → (g us ws).length = ps.length → BindsTo s fd ⟨us, ks.zip ws⟩ (ps.zip (g us ws))
  rel : ∀ {vs : List V} {us : List Value} {zs : List V} {ws : List Value}, Vals vs us → Vals zs ws → Vals (gV vs zs) (g us ws)
variable {g : List Value → List Value → List Value} {gV : List V → List V → List V}
end

structure FnScope (N P : List Str) (sc : Scope) : Prop where
  kind : sc.kind = .function
  co : sc.isCoroutine = false
  gen : sc.isGenerator = false
  nd : N.Nodup
  pre : N.take P.length = P
  par : ∀ x ∈ P, sc.names.lookup x = some .local ∨ sc.names.lookup x = some .cell
  nofree : ∀ y ∈ sc.names, y.2 ≠ .free

theorem bindL_out {kindOf : Str → Option NameKind} {x : Str} : ∀ {binds : List (Str × Value)} {m : Str → Option Value}, (∀ v, (x, v) ∉ binds) → bindL kindOf binds m x = m x
  | [], _, _ => rfl
  | (n, v) :: r, m, h => by
    unfold bindL
    rw [bindL_out fun w hw => h w (List.mem_cons_of_mem _ hw)]
    split
    · have : x ≠ n := by rintro rfl; exact h v List.mem_cons_self
      simp [this]
    · rfl
theorem bindC_out {kindOf : Str → Option NameKind} {x : Str} : ∀ {binds : List (Str × Value)} {m : Str → Option Value}, (∀ v, (x, v) ∉ binds) → bindC kindOf binds m x = m x
  | [], _, _ => rfl
  | (n, v) :: r, m, h => by
    unfold bindC
    rw [bindC_out fun w hw => h w (List.mem_cons_of_mem _ hw)]
    split
    · rfl
    · have : x ≠ n := by rintro rfl; exact h v List.mem_cons_self
      simp [this]
theorem bindL_get {kindOf : Str → Option NameKind} {x : Str} {v : Value} : ∀ {P : List Str} {vs : List Value} {i : Nat} {m : Str → Option Value}, P.Nodup → P[i]? = some x → vs[i]? = some v → kindOf x = some .local →
    bindL kindOf (P.zip vs) m x = some v
  | [], _, _, _, _, h, _, _ => by simp at h
  | _ :: _, [], _, _, _, _, h, _ => by simp at h
  | p :: P, w :: vs, 0, m, nd, h1, h2, hk => by
    simp at h1 h2; subst h1; subst h2
    show bindL kindOf ((p, w) :: P.zip vs) m p = _
    unfold bindL
    rw [bindL_out fun v hv => (List.nodup_cons.mp nd).1 (List.of_mem_zip hv).1, if_pos hk]
    simp
  | p :: P, w :: vs, i + 1, m, nd, h1, h2, hk => by
    show bindL kindOf ((p, w) :: P.zip vs) m x = _
    unfold bindL
    exact bindL_get (i := i) (List.nodup_cons.mp nd).2 (by simpa using h1) (by simpa using h2) hk
theorem bindC_get {kindOf : Str → Option NameKind} {x : Str} {v : Value} : ∀ {P : List Str} {vs : List Value} {i : Nat} {m : Str → Option Value}, P.Nodup → P[i]? = some x → vs[i]? = some v → kindOf x ≠ some .local →
    bindC kindOf (P.zip vs) m x = some v
  | [], _, _, _, _, h, _, _ => by simp at h
  | _ :: _, [], _, _, _, _, h, _ => by simp at h
  | p :: P, w :: vs, 0, m, nd, h1, h2, hk => by
    simp at h1 h2; subst h1; subst h2
    show bindC kindOf ((p, w) :: P.zip vs) m p = _
    unfold bindC
    rw [bindC_out fun v hv => (List.nodup_cons.mp nd).1 (List.of_mem_zip hv).1, if_neg hk]
    simp
  | p :: P, w :: vs, i + 1, m, nd, h1, h2, hk => by
    show bindC kindOf ((p, w) :: P.zip vs) m x = _
    unfold bindC
    exact bindC_get (i := i) (List.nodup_cons.mp nd).2 (by simpa using h1) (by simpa using h2) hk

def start (N : List Str) (vs : List V) : St := vs.map some ++ List.replicate (N.length - vs.length) none

def cxOf (CX : CXT) (P : Program) (w : World) (K : PySem.W.Frag) (mg : Str → Option Value) (base : Heap) (N : List Str) (qual : Str) (scope : Scope) (f : Addr) (cd : Value) (A : Around) (outer : List Env) (s : Shared) (H : Hp) (E : XK) : Cx where
  prog := P
  w := w
  K := K
  mg := mg
  base := base
  A := A.deeper (envOfC qual scope s.heap.objs.size f cd)
  N := N
  s₀ := s
  H₀ := H
  env := envOfC qual scope s.heap.objs.size f cd
  outer := outer
  stack := envOfC qual scope s.heap.objs.size f cd :: outer
  ex := []
  calm := true
  fn := fun _ => true
  pn := []
  xe := fun e s' => wpAny (model P w) (A.deeper (envOfC qual scope s.heap.objs.size f cd)) (leaving (envOfC qual scope s.heap.objs.size f cd) e) (fun _ s'' => CX outer H s E e s'') (fun e' s'' => CX outer H s E e' s'') s'

theorem cell_has {sc : Scope} {n : Nat} {x : Str} (h : sc.names.lookup x = some .cell) : ∃ c, (cellsFrom n sc.names []).lookup x = some c := by
  have q := PySem.W.cellsFrom_some sc.names n [] (.inl h)
  exact Option.isSome_iff_exists.mp q

theorem inv_start {CX : CXT} {P : Program} {w : World} {K : PySem.W.Frag} {mg : Str → Option Value} {base : Heap} {N ps : List Str} {qual : Str} {scope : Scope} {f : Addr} {cd : Value} {A : Around} {outer : List Env} {s s1 : Shared} {H : Hp} {E : XK} {us : List Value} {vs : List V}
    (S : FnScope N ps scope) (hd : A.handled = none) (e0 : Env0 P w K mg base A outer s H) (hl : vs.length = ps.length) (r : Vals vs us)
    (x : InCallC s s.heap.objs.size (bindL (envOfC qual scope s.heap.objs.size f cd).kindOf (ps.zip us) fun _ => none) (cellsFrom (s.heap.objs.size + 1) scope.names []) (bindC (envOfC qual scope s.heap.objs.size f cd).kindOf (ps.zip us) fun _ => none) s1) :
    Inv (cxOf CX P w K mg base N qual scope f cd A outer s H E) [] (start N vs) H s1 := by
  have hpl : ps.length ≤ N.length := by have := congrArg List.length S.pre; rw [List.length_take] at this; omega
  obtain ⟨h1, tk, rfl, hk⟩ := x.done
  have noA : ∀ b : Addr, b ∉ (cxOf CX P w K mg base N qual scope f cd A outer s H E).ex := fun b z => absurd (show b ∈ ([] : List Addr) from z) (by simp)
  refine ⟨⟨e0.mod, S.kind, rfl, rfl, Nat.le_refl _, fun y z c h1 h2 => ?_, fun y hy => ?_, fun y c _ h => ?_, fun _ => hd, Around.frames_deeper e0.frames, .inr ⟨rfl, rfl⟩, fun b z => absurd z (noA b), e0.bs, e0.bsz, fun b _ _ => noA b, fun b z => absurd z (noA b), e0.funs, e0.frf⟩,
    rfl, e0.bare, Un.kept hk, ⟨_, x.toInCall.ns, fun i y v h1 h2 h3 => ?_⟩, fun y c h => ⟨_, x.cell y c h⟩, e0.hok.fresh (Nat.le_refl _), fun y c h => ?_, fun p hp => absurd (show p ∈ ([] : List (Addr × Obj)) from hp) (by simp), e0.hok.kept hk, ?_⟩
  · exact name_of_addr x.apart (PySem.mem_of_lookup h1) (PySem.mem_of_lookup h2)
  · have hy : scope.names.lookup y = some .cell ∨ scope.names.lookup y = some .free := hy
    rcases hy with hy | hy
    · exact cell_has hy
    · exact absurd rfl (S.nofree _ (PySem.mem_of_lookup hy))
  · exact Nat.le_of_lt (x.above y c (PySem.mem_of_lookup h))
  · have hi : i < vs.length := by
      unfold start at h2
      by_cases hi : i < vs.length
      · exact hi
      · rw [List.getElem?_append_right (by simpa using hi)] at h2
        rw [List.getElem?_replicate] at h2
        split at h2 <;> cases h2
    have ha : vs[i]? = some v := by
      unfold start at h2
      rw [List.getElem?_append_left (by simpa using hi), List.getElem?_map] at h2
      cases e : vs[i]? with
      | none => rw [e] at h2; cases h2
      | some a => rw [e] at h2; cases h2; rfl
    obtain ⟨u, hu, rv⟩ := r.get ha
    have hp : ps[i]? = some y := by
      rw [← S.pre, List.getElem?_take_of_lt (by omega)]; exact h1
    have ndP : ps.Nodup := by rw [← S.pre]; exact S.nd.sublist (List.take_sublist _ _)
    refine ⟨u, rv, ?_⟩
    rcases S.par y (List.mem_of_getElem? hp) with k | k
    · exact .inl ⟨k, bindL_get ndP hp hu k⟩
    · obtain ⟨c, e⟩ := cell_has (n := s.heap.objs.size + 1) k
      refine .inr ⟨.inl k, c, e, ?_⟩
      have q := x.cell y c e
      rw [bindC_get ndP hp hu (by show scope.names.lookup y ≠ _; rw [k]; decide)] at q
      exact q
  · exact e0.hok.fresh (Nat.le_of_lt (x.above y c (PySem.mem_of_lookup h)))
  · unfold start
    show _ = N.length
    rw [List.length_append, List.length_map, List.length_replicate]
    omega

theorem fn_of {CX : CXT} {P : Program} {w : World} {K : PySem.W.Frag} {mg : Str → Option Value} {base : Heap} {k : Nat} {f : Addr} {name qual : Str} {params : Arguments} {body : List Stmt} {scope : Scope} {dV kV doc pm cdv ct oc : Value} {an od : Option Addr}
    {osl : Array (Option Value)} {N ps : List Str} {sp : Sp} (lk : K.lookup f = some ⟨oc, od, .func (PySem.W.fnOf name qual params body scope dV kV doc pm an cdv ct), osl⟩) (hcd : PySem.W.codeIn K cdv qual = true) (S : FnScope N ps scope)
    (len : ∀ vs H Q E, sp vs H Q E → vs.length = ps.length)
    (hbody : ∀ (A : Around) (outer : List Env) (s : Shared) (H : Hp) (vs : List V) (Q : VK) (E : XK), Room k (A.deeper (envOfC qual scope s.heap.objs.size f cdv)) → sp vs H Q E →
      ∃ t, PSs (cxOf CX P w K mg base N qual scope f cdv A outer s H E) body t ∧ t { nx := fun _ H' => Q .non H', rt := Q } (start N vs) H) :
    FnOk P w K mg base CX (k + 1) f (PySem.W.fnOf name qual params body scope dV kV doc pm an cdv ct) ps sp := by
  refine ⟨len, fun A outer s H args us vs Q E hr e0 hb r hsp => ?_⟩
  have hl := len _ _ _ _ hsp
  have KX : K.In s.heap := e0.mod.kin.keeps fun b o e => (e0.bs b o e).1
  have lim : s.heap.NoLimit := e0.mod.nolimit.keeps fun b o e => (e0.bs b o e).1
  have hkind : ∀ y ∈ ps.zip us, scope.names.lookup y.1 = some .local ∨ (scope.names.lookup y.1 = some .cell ∧ ((cellsFrom (s.heap.objs.size + 1) scope.names []).lookup y.1).isSome = true) := fun ⟨n, v⟩ hy => by
    rcases S.par n (List.of_mem_zip hy).1 with q | q
    · exact .inl q
    · exact .inr ⟨q, PySem.W.cellsFrom_some _ _ _ (.inl q)⟩
  refine codeAny_call_function hr.depth (KX _ _ lk) rfl S.co S.gen rfl (PySem.W.codeRec_of KX hcd) (hb _ _ _ _ ?_)
  refine wpAny_newFunctionEnv_cells S.kind hkind fun env he s1 x => ?_
  subst he
  refine ⟨lim.keeps x.toInCall.keep, codeAny_func ?_⟩
  obtain ⟨t, ht, hq⟩ := hbody A outer s H vs Q E (hr.deeper _) hsp
  have I : Inv (cxOf CX P w K mg base N qual scope f cdv A outer s H E) [] (start N vs) H s1 := inv_start S hr.hd e0 hl r x
  refine wpAny_mono (ht [] s1 (start N vs) H _ I hq) (fun fl s' hs => ?_) fun e s' hs => hs
  have fin : ∀ {σ' : St} {H' : Hp} {v : V} {u : Value}, Inv (cxOf CX P w K mg base N qual scope f cdv A outer s H E) [] σ' H' s' → RelV v u → Q v H' → CE outer P w H s Q u s' :=
    fun {σ' H' v u} J rv q => ⟨v, H', J.os, J.bare, J.base, J.hok, rv, q⟩
  cases fl with
  | ret u =>
    obtain ⟨v, σ', H', J, rv, q⟩ := hs
    exact fin J rv q
  | next =>
    obtain ⟨σ', H', J, q⟩ := hs
    exact fin (v := V.non) (u := Value.none) J rfl q
  | brk =>
    obtain ⟨_, _, _, q⟩ := hs
    exact False.elim q
  | cont =>
    obtain ⟨_, _, _, q⟩ := hs
    exact False.elim q
end L2

namespace L2
open PySem PySem.Spec PyProof.Rows
section
variable {X : Cx} {x : Str} {p pos : Pos} {e : Expr} {es : List Expr} {t : TA} {id T : String} {r : List V → Hp → VK → Prop}

def tCB (r : List V → Hp → VK → Prop) (t : TA) : TE := fun σ H Q => t σ H fun vs H1 => r vs H1 Q
theorem pe_callB (hc : CallR X (.builtin id) r) (hg : Gl X x) (hm : X.mg x = none) (hv : bootBuiltins x = some (.builtin id)) (ha : PA X (e :: es) t) (hn : x ≠ "__name__" := by decide) (hdb : (x == ("__debug__" : Str)) = false := by decide)
    (he : starEach (e :: es) X.env = (false, eval e X.env) :: starEach es X.env := by rfl) (hpl : (backTo pos (starEach es X.env)).any (·.1) = false := by rfl) : PE X (.Call (.Name x p) (e :: es) [] pos) (tCB r t) := by
  intro pins s σ H Q I h
  refine wpAny_Call_Name_kw (ld_blt I hg hm hv ?_ hn hdb)
  exact PyProof.Rows.callWith_builtin1 (thn (ha pos pins s σ H _ I h) fun us s1 ⟨vs, H1, I1, r1, q1⟩ => hc pins s1 σ H1 vs us Q I1 r1 q1) he hpl
theorem pe_callTy (hc : CallR X (.type T) r) (hg : Gl X x) (hm : X.mg x = none) (hv : bootBuiltins x = some (.type T)) (ha : PA X (e :: es) t) (hn : x ≠ "__name__" := by decide) (hdb : (x == ("__debug__" : Str)) = false := by decide)
    (he : starEach (e :: es) X.env = (false, eval e X.env) :: starEach es X.env := by rfl) (hpl : (backTo pos (starEach es X.env)).any (·.1) = false := by rfl) : PE X (.Call (.Name x p) (e :: es) [] pos) (tCB r t) := by
  intro pins s σ H Q I h
  refine wpAny_Call_Name_kw (ld_blt I hg hm hv ?_ hn hdb)
  exact PyProof.Rows.callWith_type1 (thn (ha pos pins s σ H _ I h) fun us s1 ⟨vs, H1, I1, r1, q1⟩ => hc pins s1 σ H1 vs us Q I1 r1 q1) he hpl
end
end L2

namespace HT
open PySem PyProof.Rows

section
open PySem.SeqAt
open PySem.AutoSeq1 (wpAny_loadPart')
open PySem.MeetsSeq PySem.MeetsSeq2 PySem.MeetsSeq3

end

section
variable {prog : Program} {w : World} {A : Around} {E : Value → Shared → Prop} {s : Shared}

theorem cat_tup {t b : Addr} {vs ws : List Value} {Q : Value → Shared → Prop} (ht : IsTup s.heap t vs.toArray) (hb : IsTup s.heap b ws.toArray) (hv : vs ≠ [])
    (h1 : ws = [] → Q (.ref t) s) (h2 : ws ≠ [] → Q (.ref s.heap.objs.size) { s with heap := s.heap.push { cls := .type "tuple", data := .seq (vs ++ ws).toArray } })
    (hsz : vs.length + ws.length ≤ sizeLine) : wpAny (model prog w) A (binaryOp .Add (.ref t) (.ref b)) Q E s := by
  obtain ⟨⟨cls, dd, data, sl⟩, ho, hc, n, hd⟩ := id ht
  obtain ⟨⟨cls2, dd2, data2, sl2⟩, ho2, hc2, n2, hd2⟩ := id hb
  simp only at hc hd hc2 hd2
  subst hc hd hc2 hd2
  have e : vs.toArray ++ ws.toArray = (vs ++ ws).toArray := by simp
  by_cases hw : ws = []
  · exact concat_meets ⟨_, ho, rfl⟩ ⟨_, ho2, rfl⟩ noFill_tuple_add seq_tuple_add PySem.F.slot_tuple_add PySem.F.entry_tuple_add (PySem.F.args_tuple_add_2 _ _)
      (tuple_addW1 t b vs.toArray ws.toArray n n2 dd dd2 sl sl2 (by simpa using hv) (by simp [hw])) ⟨ho, ho2, h1 hw⟩
  · refine concat_meets ⟨_, ho, rfl⟩ ⟨_, ho2, rfl⟩ noFill_tuple_add seq_tuple_add PySem.F.slot_tuple_add PySem.F.entry_tuple_add (PySem.F.args_tuple_add_2 _ _)
      (tuple_addW2 t b vs.toArray ws.toArray n n2 dd dd2 sl sl2 (by simpa using hv) (by simpa using hw) (by rw [List.size_toArray, List.size_toArray]; exact hsz)) ⟨ho, ho2, ?_⟩
    rw [e]
    exact h2 hw

def sIx (n d : Nat) : Option Int → Nat
  | none => d
  | some v => if v < 0 then (v + (n : Int)).toNat else min v.toNat n
theorem sIx_nat (n d k : Nat) : sIx n d (some (k : Int)) = min k n := by
  show (if (k : Int) < 0 then ((k : Int) + (n : Int)).toNat else min (k : Int).toNat n) = min k n
  rw [if_neg (by omega), Int.toNat_natCast]
theorem sIx_le (n d : Nat) (hd : d ≤ n) (o : Option Int) : sIx n d o ≤ n := by
  cases o with
  | none => exact hd
  | some v =>
    show (if v < 0 then (v + (n : Int)).toNat else min v.toNat n) ≤ n
    by_cases hv : v < 0
    · rw [if_pos hv]; omega
    · rw [if_neg hv]; exact Nat.min_le_right _ _
theorem clip_eq (v : Int) (n d : Nat) : (if v < 0 then max (v + (n : Int)) 0 else min v (n : Int)) = ((sIx n d (some v) : Nat) : Int) := by
  show (if v < 0 then max (v + (n : Int)) 0 else min v (n : Int)) = (((if v < 0 then (v + (n : Int)).toNat else min v.toNat n) : Nat) : Int)
  by_cases hv : v < 0
  · simp only [if_pos hv]; omega
  · simp only [if_neg hv]; omega
theorem adjust_gen (lo hi : Option Int) (n : Nat) : Builtin.Slice.sliceAdjust lo hi 1 (n : Int) = (((sIx n 0 lo : Nat) : Int), ((sIx n n hi : Nat) : Int)) := by
  have h1 : ¬ ((1 : Int) < 0) := by omega
  unfold Builtin.Slice.sliceAdjust
  simp only [h1, if_false]
  refine Prod.ext ?_ ?_
  · cases lo with
    | none => rfl
    | some v => exact clip_eq v n 0
  · cases hi with
    | none => rfl
    | some v => exact clip_eq v n n
theorem places_gen (i j : Nat) : Builtin.Slice.slicePlaces (i : Int) (j : Int) 1 = j - i := by
  unfold Builtin.Slice.slicePlaces
  have h1 : (1 : Int) > 0 := by omega
  simp only [h1, if_true, Int.ediv_one]
  split <;> omega
theorem slicePart_ {v : Value} {o : Option Int} {Q : Option Int → Shared → Prop} (p : IsPart v o) (h : Q o s) : wpAny (model prog w) A (Builtin.Slice.slicePartIndex v) Q E s := by
  cases p with
  | none => exact slicePart_none h
  | int i t => exact slicePart_int h
theorem sliceApplied_gen {sl : Addr} {vl vu : Value} {lo hi : Option Int} {n : Nat} {Q : Int × Int × Nat → Shared → Prop} (hs : s.heap.IsSliceOf sl vl vu .none) (pl : IsPart vl lo) (pu : IsPart vu hi)
    (h : Q (((sIx n 0 lo : Nat) : Int), 1, sIx n n hi - sIx n 0 lo) s) : wpAny (model prog w) A (Builtin.Slice.sliceApplied (.ref sl) (pure (n : Int))) Q E s := by
  obtain ⟨os, hos, hcs, hds⟩ := id hs
  unfold Builtin.Slice.sliceApplied Builtin.Slice.sliceFields
  refine wpAny_bind (wpAny_bind (wpAny_field hos hds (x := vl) rfl (wpAny_bind (wpAny_field hos hds (x := vu) rfl (wpAny_bind (wpAny_field hos hds (x := .none) rfl (wpAny_pure ?_)))))))
  refine wpAny_bind (slicePart_none ?_)
  show wpAny _ _ (if ((1 : Int) == 0) = true then _ else _) _ _ s
  rw [if_neg (by decide)]
  refine wpAny_bind (slicePart_ pl (wpAny_bind (slicePart_ pu (wpAny_bind (wpAny_pure ?_)))))
  show wpAny _ _ (match Builtin.Slice.sliceAdjust lo hi 1 (n : Int) with | (lo, hi) => pure (lo, (1 : Int), Builtin.Slice.slicePlaces lo hi 1)) _ _ s
  rw [adjust_gen lo hi n]
  show wpAny _ _ (pure (((sIx n 0 lo : Nat) : Int), (1 : Int), Builtin.Slice.slicePlaces ((sIx n 0 lo : Nat) : Int) ((sIx n n hi : Nat) : Int) 1)) _ _ s
  rw [places_gen]
  exact wpAny_pure h
theorem pick_gen (xs : Array Value) (i k : Nat) : ((List.range k).filterMap fun (m : Nat) => xs[((i : Int) + (m : Int) * 1).toNat]?).toArray = ((xs.toList.drop i).take k).toArray := by
  have e : (fun (m : Nat) => xs[((i : Int) + (m : Int) * 1).toNat]?) = fun m => xs[i + m]? := by
    funext m
    have : ((i : Int) + (m : Int) * 1).toNat = i + m := by omega
    rw [this]
  rw [e]
  have := pick_run xs i k
  rw [List.filterMap_map] at this
  have e2 : ((fun x => xs[x]?) ∘ fun x => i + x) = fun m => xs[i + m]? := rfl
  rw [e2] at this
  rw [this]

theorem getItem_tuple_cut {t sl : Addr} {items : Array Value} {vl vu : Value} {lo hi : Option Int} {Q : Value → Shared → Prop} (ht : IsTup s.heap t items) (hs : s.heap.IsSliceOf sl vl vu .none) (pl : IsPart vl lo) (pu : IsPart vu hi)
    (hw : ¬ (sIx items.size 0 lo = 0 ∧ sIx items.size items.size hi = items.size))
    (h : Q (.ref s.heap.objs.size) { s with heap := s.heap.push { cls := .type "tuple", data := .seq ((items.toList.drop (sIx items.size 0 lo)).take (sIx items.size items.size hi - sIx items.size 0 lo)).toArray } })
    (hsz : items.size ≤ sizeLine) : wpAny (model prog w) A (getItem (.ref t) (.ref sl)) Q E s := by
  have htake : sizeOk (.seq ((items.toList.drop (sIx items.size 0 lo)).take (sIx items.size items.size hi - sIx items.size 0 lo)).toArray) := by
    show ((items.toList.drop (sIx items.size 0 lo)).take (sIx items.size items.size hi - sIx items.size 0 lo)).toArray.size ≤ sizeLine
    rw [List.size_toArray, List.length_take, List.length_drop, Array.length_toList]
    omega
  have hj : sIx items.size items.size hi ≤ items.size := sIx_le _ _ (Nat.le_refl _) hi
  obtain ⟨os, hos, hcs, hds⟩ := id hs
  have hTs : s.TypeIs (.ref sl) "slice" := ⟨os, hos, hcs⟩
  unfold getItem
  try with_reducible refine wpAny_holding ?_
  first | refine wpAny_bind (wpAny_pure ?_) | skip
  refine wpAny_bind (wpAny_sequenceKey ht.typeIs (by decide) ?_)
  refine wpAny_bind (wpAny_callSpecial?_slot (name := Str.ofString "__getitem__") ht.typeIs PyProof.Rows.slot_tuple_getitem
    (wpAny_call_entry PyProof.Rows.slot_tuple_getitem ht.typeIs entry_tuple_getitem ?_ (args_tuple_getitem _ _)))
  show wpAny _ _ (Builtin.Tuple.tupleItemsOf (.ref t) >>= _) _ _ s
  refine wpAny_bind (tupleItemsOf_ ht ?_)
  refine wpAny_bind (wpAny_typeOf hTs ?_)
  rw [if_pos (by decide)]
  refine wpAny_bind (sliceApplied_gen hs pl pu ?_)
  have hno : ¬ ((((sIx items.size 0 lo : Nat) : Int) == 0 && (1 : Int) == 1 && (sIx items.size items.size hi - sIx items.size 0 lo) == items.size) = true) := by
    intro q
    rw [Bool.and_eq_true, Bool.and_eq_true] at q
    have q1 : ((sIx items.size 0 lo : Nat) : Int) = 0 := eq_of_beq q.1.1
    have q2 : sIx items.size items.size hi - sIx items.size 0 lo = items.size := eq_of_beq q.2
    exact hw ⟨by omega, by omega⟩
  show wpAny _ _ (if (((sIx items.size 0 lo : Nat) : Int) == 0 && (1 : Int) == 1 && (sIx items.size items.size hi - sIx items.size 0 lo) == items.size) = true then _ else _) _ _ s
  rw [if_neg hno, pick_gen]
  first
    | exact wpAny_bind (m := Builtin.Tuple.tupleExact _) (wpAny_newObj_type (wpAny_pure ⟨_, rfl, wpAny_pure h⟩) htake)
    | exact wpAny_bind (m := Builtin.Tuple.tupleExact _) (wpAny_newObj_type (wpAny_bind (wpAny_pure (wpAny_pure ⟨_, rfl, wpAny_pure h⟩))) htake)
    | exact wpAny_bind (wpAny_bind (m := Builtin.Tuple.tupleExact _) (wpAny_newObj_type (wpAny_pure (wpAny_pure ⟨_, rfl, wpAny_pure h⟩)) htake))
    | exact wpAny_bind (wpAny_bind (m := Builtin.Tuple.tupleExact _) (wpAny_newObj_type (wpAny_pure ⟨_, rfl, wpAny_pure h⟩) htake))
end
end HT

namespace L2
open PySem PySem.Spec PyProof.Rows

abbrev TO := St → Hp → (Option Int → Hp → Prop) → Prop
def PO (X : Cx) (e : Option Expr) (t : TO) : Prop :=
  ∀ (pins : List (Addr × Obj)) (s : Shared) (σ : St) (H : Hp) (Q : Option Int → Hp → Prop), Inv X pins σ H s → t σ H Q →
    wpAny (model X.prog X.w) X.A (evalPart e X.env) (fun u s' => ∃ o H', Inv X pins σ H' s' ∧ IsPart u o ∧ Q o H') X.xe s
def tNoPart : TO := fun _ H Q => Q none H
def tPart (t : TE) : TO := fun σ H Q => t σ H fun x H1 => ∃ i, x = .int i ∧ Q (some i) H1

section
variable {X : Cx} {e : Expr} {te : TE} {lo hi : Option Expr} {tl th : TO} {pos p2 : Pos}

theorem po_none : PO X none tNoPart := by
  intro pins s σ H Q I h
  rw [evalPart_none]
  exact wpAny_pure ⟨none, H, I, .none, h⟩
theorem po_some (h : PE X e te) : PO X (some e) (tPart te) := by
  intro pins s σ H Q I hw
  rw [evalPart_some]
  refine thn (h pins s σ H _ I hw) fun u s1 ⟨x, H1, I1, r1, q1⟩ => ?_
  obtain ⟨i, rfl, q⟩ := q1
  obtain ⟨t, rfl⟩ := r1
  exact ⟨some i, H1, I1, .int i t, q⟩

def SlR (X : Cx) (r : V → Option Int → Option Int → Hp → VK → Prop) : Prop :=
  ∀ (pins : List (Addr × Obj)) (s : Shared) (σ : St) (H : Hp) (x : V) (v vl vu : Value) (lo hi : Option Int) (sl : Addr) (Q : VK), Inv X pins σ H s → RelV x v → s.heap.IsSliceOf sl vl vu .none → IsPart vl lo → IsPart vu hi → r x lo hi H Q →
    ∃ T id, typeLookup (.type T) "__getitem__" = pure (some (.builtin id)) ∧ s.TypeIs v T ∧ wpAny (model X.prog X.w) X.A (getItem v (.ref sl)) (EP X pins σ Q) X.xe s
theorem SlR.or {r r' : V → Option Int → Option Int → Hp → VK → Prop} (h : SlR X r) (h' : SlR X r') : SlR X (fun x lo hi H Q => r x lo hi H Q ∨ r' x lo hi H Q) := by
  intro pins s σ H x v vl vu lo hi sl Q I rx hs pl pu q
  rcases q with q | q
  · exact h pins s σ H x v vl vu lo hi sl Q I rx hs pl pu q
  · exact h' pins s σ H x v vl vu lo hi sl Q I rx hs pl pu q
def tSl (r : V → Option Int → Option Int → Hp → VK → Prop) (te : TE) (tl th : TO) : TE := fun σ H Q => te σ H fun x H1 => tl σ H1 fun l H2 => th σ H2 fun u H3 => r x l u H3 Q
theorem pe_slice {r : V → Option Int → Option Int → Hp → VK → Prop} (hr : SlR X r) (he : PE X e te) (hl : PO X lo tl) (hu : PO X hi th) : PE X (.Subscript e (.Slice lo hi none p2) pos) (tSl r te tl th) := by
  intro pins s σ H Q I h
  refine Subscript_ (thn (he pins s σ H _ I h) fun v s1 ⟨x, H1, I1, r1, q1⟩ => ?_)
  refine wpAny_Slice (thn (hl pins s1 σ H1 _ I1 q1) fun vl s2 ⟨l, H2, I2, pl, q2⟩ => thn (hu pins s2 σ H2 _ I2 q2) fun vu s3 ⟨u, H3, I3, pu, q3⟩ => ?_)
  rw [evalPart_none]
  refine wpAny_pure ?_
  have I4 : Inv X pins σ H3 { s3 with heap := s3.heap.push { cls := .type "slice", data := .fields #[vl, vu, .none] } } := I3.kept (t' := s3.toks) fun b ob q => Heap.get?_push_of_some _ q
  obtain ⟨T, id, hT, ht, hg⟩ := hr pins { s3 with heap := s3.heap.push { cls := .type "slice", data := .fields #[vl, vu, .none] } } σ H3 x v vl vu l u s3.heap.objs.size Q I4 r1 (Heap.IsSliceOf.new ..) pl pu q3
  show wpAny (model X.prog X.w) X.A (subscriptTail e (.Slice lo hi none p2) v (.ref s3.heap.objs.size)) (EP X pins σ Q) X.xe { s3 with heap := s3.heap.push { cls := .type "slice", data := .fields #[vl, vu, .none] } }
  exact tail_any (ops := [.ref s3.heap.objs.size, v]) ht hT hg (by with_unfolding_all rfl)

def cutV (xs : List V) (lo hi : Option Int) : List V := (xs.drop (HT.sIx xs.length 0 lo)).take (HT.sIx xs.length xs.length hi - HT.sIx xs.length 0 lo)
theorem cutV_length (xs : List V) (lo hi : Option Int) : (cutV xs lo hi).length ≤ xs.length := by
  unfold cutV
  rw [List.length_take, List.length_drop]
  omega
def rSlT (K : PySem.W.Frag) : V → Option Int → Option Int → Hp → VK → Prop := fun x lo hi H Q => ∃ a xs, x = .ref a ∧ SqT K H a xs ∧
  ¬ (HT.sIx xs.length 0 lo = 0 ∧ HT.sIx xs.length xs.length hi = xs.length) ∧ ∀ p, H p = none → Q (.ref p) (upd H p (.tup (cutV xs lo hi)))
theorem sl_tup : SlR X (rSlT X.K) := by
  intro pins s σ H x v vl vu lo hi sl Q I rx hs pl pu h
  obtain ⟨a, xs, rfl, hx, hw, q⟩ := h
  cases rx
  obtain ⟨its, r, ht, hz⟩ := I.tuple hx
  have hlen : its.toArray.size = xs.length := by rw [List.size_toArray]; exact r.length.symm
  refine ⟨"tuple", _, PyProof.Rows.slot_tuple_getitem.lookup, ht.typeIs, ?_⟩
  refine HT.getItem_tuple_cut ht hs pl pu (by rw [hlen]; exact hw) ?_ (by rw [hlen]; exact hz)
  rw [hlen]
  refine ⟨.ref s.heap.objs.size, _, I.laid (t' := s.toks) (o := .tup (cutV xs lo hi)) (fun b ob q => Heap.get?_push_of_some _ q) (Nat.le_refl _) ?_, rfl, q _ (I.hok.fresh (Nat.le_refl _))⟩
  exact ⟨Nat.le_trans (cutV_length xs lo hi) hz, _, (r.drop (HT.sIx xs.length 0 lo)).take (HT.sIx xs.length xs.length hi - HT.sIx xs.length 0 lo), IsTup.new _ _⟩

def rCatT (K : PySem.W.Frag) : R2 := fun x y H Q => ∃ a b xs ys, x = .ref a ∧ y = .ref b ∧ SqT K H a xs ∧ SqT K H b ys ∧ xs ≠ [] ∧ xs.length + ys.length ≤ sizeLine ∧
  (ys = [] → Q (.ref a) H) ∧ (ys ≠ [] → ∀ p, H p = none → Q (.ref p) (upd H p (.tup (xs ++ ys))))
theorem Vals.nil_iff {xs : List V} {us : List Value} (r : Vals xs us) : us = [] ↔ xs = [] := by
  cases r with
  | nil => simp
  | cons _ _ => simp
theorem op_catT : OpR X (binaryOp .Add) (rCatT X.K) := by
  intro pins s σ H x y v u Q I rx ry h
  obtain ⟨a, b, xs, ys, rfl, rfl, ha, hb, hx, hz, q1, q2⟩ := h
  cases rx
  cases ry
  obtain ⟨its, r1, p1, _⟩ := I.tuple ha
  obtain ⟨its2, r2, p2, _⟩ := I.tuple hb
  refine HT.cat_tup p1 p2 (fun z => hx (r1.nil_iff.mp z)) (fun z => ⟨.ref a, H, I, rfl, q1 (r2.nil_iff.mp z)⟩) (fun z => ?_) (by rw [← r1.length, ← r2.length]; exact hz)
  refine ⟨.ref s.heap.objs.size, _, I.laid (t' := s.toks) (o := .tup (xs ++ ys)) (fun b ob q => Heap.get?_push_of_some _ q) (Nat.le_refl _) ?_, rfl, q2 (fun w => z (r2.nil_iff.mpr w)) _ (I.hok.fresh (Nat.le_refl _))⟩
  exact ⟨by rw [List.length_append]; exact hz, _, r1.append r2, IsTup.new _ _⟩
end
end L2

namespace L2
open PySem PySem.Spec PyProof.Rows

def ixN (n : Nat) (i : Int) : Option Nat := if 0 ≤ i then (if i < n then some i.toNat else none) else if -(n : Int) ≤ i then some (i + n).toNat else none
def atI {α : Type} (xs : List α) (i : Int) : Option α := (ixN xs.length i).bind fun j => xs[j]?
theorem ixN_seq {n : Nat} {i : Int} {j : Nat} (h : ixN n i = some j) : seqIndex? i n = some j ∧ j < n ∧ -(n : Int) ≤ i ∧ i < n := by
  unfold ixN at h
  by_cases h0 : 0 ≤ i
  · rw [if_pos h0] at h
    by_cases h1 : i < n
    · rw [if_pos h1] at h
      have e : i.toNat = j := Option.some.inj h
      exact ⟨by rw [seqIndex_of h0 h1, e], by omega, by omega, h1⟩
    · rw [if_neg h1] at h; cases h
  · rw [if_neg h0] at h
    by_cases h1 : -(n : Int) ≤ i
    · rw [if_pos h1] at h
      have e : (i + n).toNat = j := Option.some.inj h
      exact ⟨by rw [seqIndex_neg (by omega) h1, e], by omega, h1, by omega⟩
    · rw [if_neg h1] at h; cases h
theorem atI_get {α : Type} {xs : List α} {i : Int} {v : α} (h : atI xs i = some v) : ∃ j, seqIndex? i xs.length = some j ∧ xs[j]? = some v ∧ j < xs.length ∧ -(xs.length : Int) ≤ i ∧ i < xs.length := by
  unfold atI at h
  cases e : ixN xs.length i with
  | none => rw [e] at h; cases h
  | some j =>
    rw [e] at h
    obtain ⟨h1, h2, h3, h4⟩ := ixN_seq e
    exact ⟨j, h1, h, h2, h3, h4⟩
def PlainIx (b : Expr) : Prop := ∀ o i, subscripted b false o i = operate [o, i] (getItem o i)
def IxR (X : Cx) (r : R2) : Prop :=
  ∀ (value slice : Expr) (pins : List (Addr × Obj)) (s : Shared) (σ : St) (H : Hp) (x y : V) (v u : Value) (Q : VK), Inv X pins σ H s → RelV x v → RelV y u → r x y H Q →
    subscripted slice false v u = operate [v, u] (getItem v u) → wpAny (model X.prog X.w) X.A (subscriptTail value slice v u) (EP X pins σ Q) X.xe s
def MtR (X : Cx) (id : String) (r : V → List V → Hp → VK → Prop) : Prop :=
  ∀ (pins : List (Addr × Obj)) (s : Shared) (σ : St) (H : Hp) (x : V) (xs : List V) (v : Value) (us : List Value) (Q : VK), Inv X pins σ H s → RelV x v → Vals xs us → r x xs H Q →
    wpAny (model X.prog X.w) X.A (call (.builtin id) (v :: us)) (EP X pins σ Q) X.xe s
section
variable {X : Cx} {a b : Expr} {ta tb : TE} {pos : Pos}
theorem IxR.or {r r' : R2} (h : IxR X r) (h' : IxR X r') : IxR X (fun x y H Q => r x y H Q ∨ r' x y H Q) := by
  intro value slice pins s σ H x y v u Q I rx ry q hs
  rcases q with q | q
  · exact h value slice pins s σ H x y v u Q I rx ry q hs
  · exact h' value slice pins s σ H x y v u Q I rx ry q hs
theorem MtR.or {id : String} {r r' : V → List V → Hp → VK → Prop} (h : MtR X id r) (h' : MtR X id r') : MtR X id (fun x xs H Q => r x xs H Q ∨ r' x xs H Q) := by
  intro pins s σ H x xs v us Q I rx rs q
  rcases q with q | q
  · exact h pins s σ H x xs v us Q I rx rs q
  · exact h' pins s σ H x xs v us Q I rx rs q
theorem pe_ix {r : R2} (hr : IxR X r) (ha : PE X a ta) (hb : PE X b tb) (hs : PlainIx b) : PE X (.Subscript a b pos) (tOp r ta tb) := by
  intro pins s σ H Q I h
  exact Subscript_ (binT ha hb I h fun v u s2 x y H2 I2 rx ry q => hr a b pins s2 σ H2 x y v u Q I2 rx ry q (hs _ _))

def rIxL (K : PySem.W.Frag) : R2 := fun x y H Q => ∃ p xs i v, x = .ref p ∧ y = .int i ∧ SqL K H p xs ∧ atI xs i = some v ∧ Q v H
def rIxT (K : PySem.W.Frag) : R2 := fun x y H Q => ∃ p xs i v, x = .ref p ∧ y = .int i ∧ SqT K H p xs ∧ atI xs i = some v ∧ Q v H
def rIxS : R2 := fun x y H Q => ∃ z i c, x = .str z ∧ y = .int i ∧ z.length ≤ sizeLine ∧ atI z.cps.toList i = some c ∧ Q (.str ⟨#[c]⟩) H
theorem ix_list : IxR X (rIxL X.K) := by
  intro value slice pins s σ H x y v u Q I rx ry h hs
  obtain ⟨p, xs, i, z, rfl, rfl, hq, he, q⟩ := h
  cases rx
  obtain ⟨t, rfl⟩ := ry
  obtain ⟨its, r, pl, hz⟩ := I.list hq
  obtain ⟨j, h1, h2, h3, h4, h5⟩ := atI_get he
  obtain ⟨w, ew, rw'⟩ := r.get h2
  have hl := r.length
  have hn := line63
  have fin : EP X pins σ Q w s := ⟨z, H, I, rw', q⟩
  by_cases h0 : 0 ≤ i
  · have hj : i.toNat = j := by
      rw [seqIndex_of h0 h5] at h1
      exact Option.some.inj h1
    exact item_listR pl.isList h0 (by omega) (by rw [hj]; simpa using ew) fin hs
  · have hj : (i + (its.toArray.size : Int)).toNat = j := by
      rw [seqIndex_neg (by omega) h4] at h1
      rw [List.size_toArray, ← hl]
      exact Option.some.inj h1
    exact subscriptTail_builtinR (x := w) pl.isList.typeIs slot_list_getitem.lookup
      (wpAny_getItem_list_neg (Q := fun r s' => r = w ∧ EP X pins σ Q r s') pl.isList (by omega) (by rw [List.size_toArray] <;> omega) (by omega) (by rw [hj]; simpa using ew) ⟨rfl, fin⟩) hs
theorem ix_tup : IxR X (rIxT X.K) := by
  intro value slice pins s σ H x y v u Q I rx ry h hs
  obtain ⟨p, xs, i, z, rfl, rfl, hq, he, q⟩ := h
  cases rx
  obtain ⟨t, rfl⟩ := ry
  obtain ⟨its, r, pl, hz⟩ := I.tuple hq
  obtain ⟨j, h1, h2, h3, h4, h5⟩ := atI_get he
  obtain ⟨w, ew, rw'⟩ := r.get h2
  have hl := r.length
  have hn := line63
  have fin : EP X pins σ Q w s := ⟨z, H, I, rw', q⟩
  exact subscriptTail_builtinR (x := w) pl.typeIs slot_tuple_getitem.lookup
    (getItem_tuple (j := j) (Q := fun r s' => r = w ∧ EP X pins σ Q r s') pl (by omega) (by omega) (by rw [List.size_toArray, ← hl]; exact h1) (by simpa using ew) ⟨rfl, fin⟩) hs
theorem ix_str : IxR X rIxS := by
  intro value slice pins s σ H x y v u Q I rx ry h hs
  obtain ⟨z, i, c, rfl, rfl, hz, he, q⟩ := h
  obtain ⟨t, rfl⟩ := rx
  obtain ⟨t', rfl⟩ := ry
  obtain ⟨j, h1, h2, h3, h4, h5⟩ := atI_get he
  have hl : z.cps.toList.length = z.length := by simp [Str.length]
  rw [hl] at h1 h4 h5
  have hn := line63
  exact tail_any (typeIs_str s z t) slot_str_getitem.lookup (getItem_str (c := c) (by
    have e1 : decide (i < -(2 ^ 63 : Int)) = false := decide_eq_false (by omega)
    have e2 : decide (i ≥ 2 ^ 63) = false := decide_eq_false (by omega)
    rw [e1, e2, Bool.or_false]) (by rw [h1]; simpa using h2) ⟨.str ⟨#[c]⟩, H, I.tok _, ⟨_, rfl⟩, q⟩) hs
def rIx (K : PySem.W.Frag) : R2 := fun x y H Q => rIxL K x y H Q ∨ rIxT K x y H Q ∨ rIxS x y H Q
theorem ix_seq : IxR X (rIx X.K) := ix_list.or (ix_tup.or ix_str)

theorem mapSeq_set (its : List Value) (n j : Nat) (u : Value) : Obj.mapSeq (·.setIfInBounds j u) { cls := .type "list", data := .seq its.toArray n } = { cls := .type "list", data := .seq (its.set j u).toArray n } := by
  simp [Obj.mapSeq]
theorem Inv.lst {pins : List (Addr × Obj)} {σ : St} {H : Hp} {s : Shared} {p : Addr} {xs : List V} (I : Inv X pins σ H s) (h : H p = some (.lst xs)) :
    ∃ (its : List Value) (n : Nat), Vals xs its ∧ s.heap.get? p = some { cls := .type "list", data := .seq its.toArray n } ∧ xs.length ≤ sizeLine := by
  obtain ⟨z, its, n, r, e⟩ := I.hok p _ h
  exact ⟨its, n, r, e, z⟩
theorem Inv.lstUpd {pins : List (Addr × Obj)} {σ : St} {H : Hp} {s : Shared} {p : Addr} {xs ys : List V} {its its' : List Value} {n n' : Nat} {f : Obj → Obj} (I : Inv X pins σ H s) (h : H p = some (.lst xs))
    (ho : s.heap.get? p = some { cls := .type "list", data := .seq its.toArray n }) (hf : f { cls := .type "list", data := .seq its.toArray n } = { cls := .type "list", data := .seq its'.toArray n' }) (r : Vals ys its') (hz : ys.length ≤ sizeLine) (t : Nat) :
    Inv X pins σ (upd H p (.lst ys)) { s with heap := s.heap.update p f, toks := t } := by
  have e : (s.heap.update p f).get? p = some { cls := .type "list", data := .seq its'.toArray n' } := by
    rw [Heap.get?_update_self f ho (by rw [hf] <;> rfl), hf]
  refine I.write (x := p) (e := p) (by rw [h]; trivial) (.inl rfl) (fun b u hb q => (Heap.get?_update_other _ _ (Ne.symm hb)).trans q) ⟨_, e⟩ ?_
  exact ⟨hz, its', n', r, e⟩
def rSetL : V → V → V → Hp → (Hp → Prop) → Prop := fun o i v H Q => ∃ p xs k j, o = .ref p ∧ i = .int k ∧ H p = some (.lst xs) ∧ ixN xs.length k = some j ∧ Q (upd H p (.lst (xs.set j v)))
theorem set_list : PSet X rSetL := by
  intro pins s σ H o i v ov iv u Q I ro ri rv h
  obtain ⟨p, xs, k, j, rfl, rfl, hp, hj, q⟩ := h
  cases ro
  obtain ⟨t, rfl⟩ := ri
  obtain ⟨its, n, r, ho, hz⟩ := I.lst hp
  obtain ⟨h1, h2, h3, h4⟩ := ixN_seq hj
  have hl := r.length
  have hn := line63
  have I' : Inv X pins σ (upd H p (.lst (xs.set j v))) { s with heap := s.heap.update p (Obj.mapSeq (·.setIfInBounds j u)) } :=
    I.lstUpd hp ho (mapSeq_set its n j u) (r.set rv j) (by rw [List.length_set]; exact hz) s.toks
  by_cases h0 : 0 ≤ k
  · have hk : k.toNat = j := by
      rw [seqIndex_of h0 h4] at h1
      exact Option.some.inj h1
    exact PySem.W.ki_setAt ho h0 (by omega) (by rw [List.size_toArray, ← hl]; exact h4) (by rw [hk]; exact ⟨_, I', q⟩)
  · have hk : (k + (its.toArray.size : Int)).toNat = j := by
      rw [seqIndex_neg (by omega) h3] at h1
      rw [List.size_toArray, ← hl]
      exact Option.some.inj h1
    exact PySem.W.ki_setBack ho (by omega) (by rw [List.size_toArray, ← hl]; exact h3) (by omega) (by rw [hk]; exact ⟨_, I', q⟩)

theorem slice_bounds (lo hi : Option Int) (n : Nat) : (sliceBounds lo hi none n).1 = ((HT.sIx n 0 lo : Nat) : Int) ∧ (sliceBounds lo hi none n).2.1 = ((HT.sIx n n hi : Nat) : Int) ∧ (sliceBounds lo hi none n).2.2 = 1 := by
  refine ⟨?_, ?_, rfl⟩
  · cases lo with
    | none => simp [sliceBounds, HT.sIx]
    | some i =>
      simp only [sliceBounds, HT.sIx, Option.getD_none, show (1 : Int) > 0 by decide, if_true]
      by_cases h : i < 0
      · simp only [h, if_true] <;> omega
      · simp only [h, if_false] <;> omega
  · cases hi with
    | none => simp [sliceBounds, HT.sIx]
    | some i =>
      simp only [sliceBounds, HT.sIx, Option.getD_none, show (1 : Int) > 0 by decide, if_true]
      by_cases h : i < 0
      · simp only [h, if_true] <;> omega
      · simp only [h, if_false] <;> omega
theorem slicePick_cut (its : List Value) (lo hi : Option Int) : slicePick its.toArray lo hi none = ((its.drop (HT.sIx its.length 0 lo)).take (HT.sIx its.length its.length hi - HT.sIx its.length 0 lo)).toArray := by
  obtain ⟨h1, h2, h3⟩ := slice_bounds lo hi its.toArray.size
  unfold slicePick
  rw [h1, h2, h3]
  simp only [sliceRange_one, pick_run, List.size_toArray] <;> rfl
def rSlL (K : PySem.W.Frag) : V → Option Int → Option Int → Hp → VK → Prop := fun x lo hi H Q => ∃ a xs, x = .ref a ∧ SqL K H a xs ∧ ∀ p, H p = none → Q (.ref p) (upd H p (.lst (cutV xs lo hi)))
theorem sl_list : SlR X (rSlL X.K) := by
  intro pins s σ H x v vl vu lo hi sl Q I rx hs pl pu h
  obtain ⟨a, xs, rfl, hx, q⟩ := h
  cases rx
  obtain ⟨its, r, ht, hz⟩ := I.list hx
  have hlen := r.length
  refine ⟨"list", _, slot_list_getitem.lookup, ht.isList.typeIs, ?_⟩
  refine wpAny_getItem_list_slice ht.isList hs pl pu .none (by simp) ?_ (by rw [List.size_toArray] <;> omega)
  rw [slicePick_cut, ← hlen]
  refine ⟨.ref s.heap.objs.size, _, I.laid (t' := s.toks) (o := .lst (cutV xs lo hi)) (fun b ob q => Heap.get?_push_of_some _ q) (Nat.le_refl _) ?_, rfl, q _ (I.hok.fresh (Nat.le_refl _))⟩
  exact ⟨Nat.le_trans (cutV_length xs lo hi) hz, _, 0, (r.drop (HT.sIx xs.length 0 lo)).take (HT.sIx xs.length xs.length hi - HT.sIx xs.length 0 lo), Heap.get?_push_size _ rfl⟩

def flatV : V → Bool
  | .non => true
  | .bl _ => true
  | .int _ => true
  | .str _ => true
  | _ => false
def eqV : V → V → Bool
  | .non, .non => true
  | .bl a, .bl b => a == b
  | .bl a, .int b => (if a then 1 else 0) == b
  | .int a, .bl b => a == (if b then 1 else 0)
  | .int a, .int b => a == b
  | .str a, .str b => a == b
  | _, _ => false
theorem eqAt_V {A : Around} {s : Shared} {y x : V} {u v : Value} (ry : RelV y u) (rx : RelV x v) (fy : flatV y = true) (fx : flatV x = true) : SeqAt.EqAt A s u v (eqV y x) := by
  cases y with
  | non =>
    cases ry
    cases x with
    | non => cases rx; exact SeqAt.EqAt.same _
    | bl b => cases rx; exact SeqAt.EqAt.none_bool b
    | int b => obtain ⟨t, rfl⟩ := rx; exact SeqAt.EqAt.none_int b t
    | str b => obtain ⟨t, rfl⟩ := rx; exact SeqAt.EqAt.none_str b t
    | _ => exact absurd (show false = true from fx) Bool.false_ne_true
  | bl a =>
    cases ry
    cases x with
    | non => cases rx; exact SeqAt.EqAt.bool_none a
    | bl b => cases rx; exact SeqAt.EqAt.bool_bool a b
    | int b => obtain ⟨t, rfl⟩ := rx; exact SeqAt.EqAt.bool_int a b t
    | str b => obtain ⟨t, rfl⟩ := rx; exact SeqAt.EqAt.bool_str a b t
    | _ => exact absurd (show false = true from fx) Bool.false_ne_true
  | int a =>
    obtain ⟨t', rfl⟩ := ry
    cases x with
    | non => cases rx; exact SeqAt.EqAt.int_none a t'
    | bl b => cases rx; exact SeqAt.EqAt.int_bool a t' b
    | int b => obtain ⟨t, rfl⟩ := rx; exact SeqAt.EqAt.int_int a t' b t
    | str b => obtain ⟨t, rfl⟩ := rx; exact SeqAt.EqAt.int_str a t' b t
    | _ => exact absurd (show false = true from fx) Bool.false_ne_true
  | str a =>
    obtain ⟨t', rfl⟩ := ry
    cases x with
    | non => cases rx; exact SeqAt.EqAt.str_none a t'
    | bl b => cases rx; exact SeqAt.EqAt.str_bool a t' b
    | int b => obtain ⟨t, rfl⟩ := rx; exact SeqAt.EqAt.str_int a t' b t
    | str b => obtain ⟨t, rfl⟩ := rx; exact SeqAt.EqAt.str_str a t' b t
    | _ => exact absurd (show false = true from fx) Bool.false_ne_true
  | _ => exact absurd (show false = true from fy) Bool.false_ne_true
def eqU (x : V) (u : Value) : Bool := match u with
  | .none => eqV .non x
  | .bool b => eqV (.bl b) x
  | .int i _ => eqV (.int i) x
  | .str z _ => eqV (.str z) x
  | _ => false
theorem eqU_of {x y : V} {u : Value} (r : RelV y u) (f : flatV y = true) : eqU x u = eqV y x := by
  cases y with
  | non => cases r; rfl
  | bl b => cases r; rfl
  | int i => obtain ⟨t, rfl⟩ := r; rfl
  | str z => obtain ⟨t, rfl⟩ := r; rfl
  | _ => exact absurd (show false = true from f) Bool.false_ne_true
theorem any_eqU {x : V} : ∀ {xs : List V} {us : List Value}, Vals xs us → xs.all flatV = true → us.any (eqU x) = xs.any fun y => eqV y x
  | _, _, .nil, _ => rfl
  | y :: xs, u :: us, .cons r t, f => by
    rw [List.all_cons, Bool.and_eq_true] at f
    rw [List.any_cons, List.any_cons, eqU_of r f.1, any_eqU t f.2]
theorem mem_eqAt {A : Around} {s : Shared} {x : V} {v : Value} (rx : RelV x v) (fx : flatV x = true) : ∀ {xs : List V} {us : List Value}, Vals xs us → xs.all flatV = true → ∀ u ∈ us, SeqAt.EqAt A s u v (eqU x u)
  | _, _, .nil, _ => fun u hu => by cases hu
  | y :: xs, u :: us, .cons r t, f => fun u' hu => by
    rw [List.all_cons, Bool.and_eq_true] at f
    rcases List.mem_cons.mp hu with rfl | hu
    · rw [eqU_of r f.1]; exact eqAt_V r rx f.1 fx
    · exact mem_eqAt rx fx t f.2 u' hu
def inV (x : V) (xs : List V) : Bool := xs.any fun y => eqV y x
def rIn (K : PySem.W.Frag) (neg : Bool) : R2 := fun x y H Q => ∃ p xs, y = .ref p ∧ (SqL K H p xs ∨ SqT K H p xs) ∧ flatV x = true ∧ xs.all flatV = true ∧ Q (.bl (if neg then !inV x xs else inV x xs)) H
theorem op_in_seq : OpR X (compareOp .In) (rIn X.K false) := by
  intro pins s σ H x y v u Q I rx ry h
  obtain ⟨p, xs, rfl, hq, fx, fs, q⟩ := h
  cases ry
  rcases hq with hq | hq
  · obtain ⟨its, r, pl, hz⟩ := I.list hq
    refine SeqAt.in_listAt (eqU x) pl.isList (fun w hw => mem_eqAt rx fx r fs w (by simpa using hw)) ⟨.bl _, H, I, rfl, ?_⟩
    rw [show its.toArray.any (eqU x) = its.any (eqU x) by simp, any_eqU r fs]
    exact q
  · obtain ⟨its, r, pl, hz⟩ := I.tuple hq
    refine SeqAt.in_tupleAt (eqU x) pl (fun w hw => mem_eqAt rx fx r fs w (by simpa using hw)) ⟨.bl _, H, I, rfl, ?_⟩
    rw [show its.toArray.any (eqU x) = its.any (eqU x) by simp, any_eqU r fs]
    exact q
theorem CallR.or {f : Value} {r r' : List V → Hp → VK → Prop} (h : CallR X f r) (h' : CallR X f r') : CallR X f (fun xs H Q => r xs H Q ∨ r' xs H Q) := by
  intro pins s σ H xs us Q I rs q
  rcases q with q | q
  · exact h pins s σ H xs us Q I rs q
  · exact h' pins s σ H xs us Q I rs q
theorem call_tuple_of : CallR X (.type "tuple") (fun xs H Q => ∃ p ys, xs = [.ref p] ∧ ((SqL X.K H p ys ∧ ∀ l, H l = none → Q (.ref l) (upd H l (.tup ys))) ∨ (SqT X.K H p ys ∧ Q (.ref p) H))) := by
  intro pins s σ H xs us Q I r h
  obtain ⟨p, ys, rfl, h⟩ := h
  obtain ⟨u, rfl, rx⟩ := vals1 r
  cases rx
  rcases h with ⟨hq, q⟩ | ⟨hq, q⟩
  · obtain ⟨its, r', pl, hz⟩ := I.list hq
    have hlen := r'.length
    refine call_tuple_list pl.isList (fun h' kp => ?_) (by simp only [List.size_toArray] <;> omega)
    have I1 : Inv X pins σ H { s with heap := h' } := I.kept (t' := s.toks) kp
    have I2 : Inv X pins σ (upd H h'.objs.size (.tup ys)) { s with heap := h'.push { cls := .type "tuple", data := .seq its.toArray } } :=
      I1.laid (t' := s.toks) (fun b o e => Heap.get?_push_of_some _ e) (Nat.le_refl _) (show ObjOk X.prog X.w _ _ _ (.tup ys) from ⟨hz, its, r', IsTup.new _ _⟩)
    exact ⟨.ref h'.objs.size, _, I2, rfl, q _ (I1.hok.fresh (Nat.le_refl _))⟩
  · obtain ⟨its, r', pl, hz⟩ := I.tuple hq
    exact call_tuple_same pl ⟨.ref p, H, I, rfl, q⟩

def tyV (K : PySem.W.Frag) (T : String) (x : V) (H : Hp) : Prop := match x with
  | .str _ => T = "str"
  | .int _ => T = "int"
  | .ref p => (T = "list" ∧ ∃ xs, SqL K H p xs) ∨ (T = "tuple" ∧ ∃ o, K.lookup p = some o ∧ o.cls = .type "tuple" ∧ o.dict = none) ∨
      (T = "dict" ∧ ((∃ kvs, H p = some (.dK kvs)) ∨ ∃ kvs, H p = some (.dT kvs))) ∨ (T = "set" ∧ ∃ S n, H p = some (.set S n))
  | _ => False
theorem tyV_is {pins : List (Addr × Obj)} {σ : St} {H : Hp} {s : Shared} {T : String} {x : V} {v : Value} (I : Inv X pins σ H s) (r : RelV x v) (ty : tyV X.K T x H) :
    s.TypeIs v T ∧ ∀ a, v = .ref a → ∃ ob, s.heap.get? a = some ob ∧ ob.dict = none := by
  cases x with
  | str z =>
    obtain ⟨t, rfl⟩ := r
    cases (show T = "str" from ty)
    exact ⟨typeIs_str s z t, fun _ e => nomatch e⟩
  | int i =>
    obtain ⟨t, rfl⟩ := r
    cases (show T = "int" from ty)
    exact ⟨typeIs_int s i t, fun _ e => nomatch e⟩
  | ref p =>
    cases r
    rcases ty with ⟨rfl, xs, hq⟩ | ⟨rfl, o, hk, hc, hd⟩ | ⟨rfl, hk⟩ | ⟨rfl, S, n, hk⟩
    · obtain ⟨its, _, pl, _⟩ := I.list hq
      refine ⟨pl.isList.typeIs, fun a e => ?_⟩
      cases e
      obtain ⟨o, n, e, c, hd, _⟩ := pl
      exact ⟨o, e, hd⟩
    · refine ⟨⟨o, I.kIn p o hk, hc⟩, fun a e => ?_⟩
      cases e
      exact ⟨o, I.kIn _ o hk, hd⟩
    · have z : ∃ o, s.heap.get? p = some o ∧ o.ExactDict := by
        rcases hk with ⟨kvs, hk⟩ | ⟨kvs, hk⟩
        · obtain ⟨_, _, _, _, o, _, _, e, ex, _⟩ := I.hok p _ hk
          exact ⟨o, e, ex⟩
        · obtain ⟨_, _, _, _, o, _, _, e, ex, _⟩ := I.hok p _ hk
          exact ⟨o, e, ex⟩
      obtain ⟨o, e, ex⟩ := z
      refine ⟨⟨o, e, ex.1⟩, fun a e2 => ?_⟩
      cases e2
      exact ⟨o, e, ex.2.1⟩
    · obtain ⟨o, _, _, _, e, ex, _⟩ := I.hok p _ hk
      refine ⟨⟨o, e, ex.1⟩, fun a e2 => ?_⟩
      cases e2
      exact ⟨o, e, ex.2.1⟩
  | _ => exact False.elim ty
def tBM (K : PySem.W.Frag) (T : String) (r : V → List V → Hp → VK → Prop) (to : TE) (t : TA) : TE := fun σ H Q => to σ H fun x H1 => tyV K T x H1 ∧ t σ H1 fun xs H2 => r x xs H2 Q
variable {o e : Expr} {es : List Expr} {to : TE} {t : TA} {name : Str} {apos cpos : Pos} {T id : String} {r : V → List V → Hp → VK → Prop}
theorem pe_bm (pa : PlainAttrs T) (slot : Slot T name id) (hty : typeOf (.builtin id) = pure (.type "method_descriptor")) (hm : MtR X id r) (ho : PE X o to) (ha : PA X (e :: es) t)
    (hbase : attributeBase o name X.env (eval o X.env) = eval o X.env := by rfl)
    (hfew : ((backTo cpos (starEach (e :: es) X.env)).all (fun x => !x.1) && (backToKw cpos (keywordEach [] X.env)).all (fun x => x.1.isSome)
      && decide ((e :: es).length + ([] : List Keyword).length + (if ([] : List Keyword).isEmpty then 0 else 1) < 30)) = true := by rfl)
    (hline : (apos.endLine == cpos.line) = true := by rfl) (hs : starEach (e :: es) X.env = (false, eval e X.env) :: starEach es X.env := by rfl) (hplain : (backTo cpos (starEach es X.env)).any (·.1) = false := by rfl) :
    PE X (.Call (.Attribute o name apos) (e :: es) [] cpos) (tBM X.K T r to t) := by
  intro pins s σ H Q I h
  refine wpAny_Call_method_late hbase hfew hline rfl (thn (ho pins s σ H _ I h) fun v s1 ⟨x, H1, I1, r1, ty, q1⟩ => ?_)
  obtain ⟨h1, h2⟩ := tyV_is I1 r1 ty
  refine ⟨T, id, pa, slot, hty, h1, h2, ?_⟩
  have hA := ha cpos pins s1 σ H1 _ I1 q1
  rw [hs] at hA ⊢
  refine Calls.callWith_builtin (by show (false || (backTo cpos (starEach es X.env)).any (·.1)) = false; rw [hplain] <;> rfl) (Calls.evalArgs_plain ?_)
  exact thn hA fun us s2 ⟨vs, H2, I2, r2, q2⟩ => hm pins s2 σ H2 x vs v us Q I2 r1 r2 q2
end
end L2

namespace L2
open PySem PySem.Spec PyProof.Rows

def MtM (X : Cx) (id : String) (r : V → List V → Hp → VK → Prop) : Prop :=
  ∀ (pins : List (Addr × Obj)) (s : Shared) (σ : St) (H : Hp) (x : V) (xs : List V) (v : Value) (us : List Value) (Q : VK), Inv X pins σ H s → RelV x v → Vals xs us → r x xs H Q →
    wpAny (model X.prog X.w) X.A (call (.builtin id) (v :: us)) (EP X pins σ Q) X.xe s

theorem Vals.one : ∀ {x : V} {us : List Value}, Vals [x] us → ∃ u, us = [u] ∧ RelV x u
  | _, _, .cons r .nil => ⟨_, rfl, r⟩
theorem Vals.two : ∀ {x y : V} {us : List Value}, Vals [x, y] us → ∃ u v, us = [u, v] ∧ RelV x u ∧ RelV y v
  | _, _, _, .cons r (.cons q .nil) => ⟨_, _, rfl, r, q⟩
theorem Vals.zero : ∀ {us : List Value}, Vals [] us → us = []
  | _, .nil => rfl
section
variable {X : Cx} {pins : List (Addr × Obj)} {σ : St} {H : Hp} {s : Shared} {l b : Addr} {xs ys zs : List V}

theorem Inv.lset {its its' : List Value} {n : Nat} {f : Array Value → Array Value} {t' : Nat} (I : Inv X pins σ H s) (hH : H l = some (.lst xs))
    (e : s.heap.get? l = some { cls := .type "list", data := .seq its.toArray n }) (hf : f its.toArray = its'.toArray) (hv : Vals ys its') (hz : ys.length ≤ sizeLine) :
    Inv X pins σ (upd H l (.lst ys)) { s with heap := s.heap.update l (Obj.mapSeq f), toks := t' } := by
  have q := PySem.IsL.update e f
  rw [hf] at q
  refine I.write (x := l) (e := l) (by rw [hH]; exact trivial) (.inl rfl) (fun b' u hb hu => (Heap.get?_update_other s.heap (Obj.mapSeq f) (Ne.symm hb)).trans hu) ⟨_, q⟩ ?_
  exact ⟨hz, its', _, hv, q⟩
theorem Inv.lnew {its : List Value} {t' : Nat} (I : Inv X pins σ H s) (hv : Vals ys its) (hz : ys.length ≤ sizeLine) :
    Inv X pins σ (upd H s.heap.objs.size (.lst ys)) { s with heap := s.heap.push { cls := .type "list", data := .seq its.toArray }, toks := t' } :=
  I.laid (fun _ _ q => Heap.get?_push_of_some _ q) (Nat.le_refl _) ⟨hz, its, 0, hv, Heap.get?_push_size _ rfl⟩
theorem Inv.fresh (I : Inv X pins σ H s) : H s.heap.objs.size = none := I.hok.fresh (Nat.le_refl _)
theorem Inv.lstM (I : Inv X pins σ H s) (hH : H l = some (.lst xs)) : xs.length ≤ sizeLine ∧ ∃ (its : List Value) (n : Nat), Vals xs its ∧ xs.length = its.length ∧ s.heap.get? l = some { cls := .type "list", data := .seq its.toArray n } := by
  obtain ⟨z, its, n, r, e⟩ := I.hok l _ hH
  exact ⟨z, its, n, r, r.length, e⟩

end

section
variable {X : Cx}

def rAppend : V → List V → Hp → VK → Prop := fun x vs H Q => ∃ l xs y, x = .ref l ∧ vs = [y] ∧ H l = some (.lst xs) ∧ xs.length < sizeLine ∧ Q .non (upd H l (.lst (xs ++ [y])))
theorem mt_append : MtM X "list.append" rAppend := by
  intro pins s σ H x vs v us Q I rx rv h
  obtain ⟨l, xs, y, rfl, rfl, hH, hz, q⟩ := h
  cases rx
  obtain ⟨u, rfl, ru⟩ := rv.one
  obtain ⟨z, its, n, r, hl, e⟩ := I.lstM hH
  refine call_meets F.slot_list_append ⟨_, e, rfl⟩ F.entry_list_append (F.args_list_append_2 _ _) (PySem.list_append l its.toArray n u (by rw [List.size_toArray]; omega)) ⟨e, ?_⟩
  refine ⟨.non, _, I.lset (its' := its ++ [u]) hH e (by simp) (r.append (.cons ru .nil)) ?_, rfl, q⟩
  rw [List.length_append, List.length_singleton]
  omega

end

section
variable {prog : Program} {w : World} {A : Around} {E : Value → Shared → Prop} {s : Shared}
end

section
variable {X : Cx}
end
end L2

namespace L2
open PySem PySem.Spec PyProof.Rows

section
variable {κ : Type} [DecidableEq κ]
def valV (kvs : List (κ × V)) (k : κ) : Option V := (kvs.find? fun kv => decide (kv.1 = k)).map (·.2)
def putK (kvs : List (κ × V)) (k : κ) (v : V) : List (κ × V) :=
  if (kvs.any fun kv => decide (kv.1 = k)) = true then kvs.map (fun kv => if kv.1 = k then (kv.1, v) else kv) else kvs ++ [(k, v)]
def dropK (kvs : List (κ × V)) (k : κ) : List (κ × V) := kvs.filter fun kv => decide (kv.1 ≠ k)

theorem valV_pos {p : κ × V} {r : List (κ × V)} {k : κ} (e : p.1 = k) : valV (p :: r) k = some p.2 := by simp [valV, List.find?_cons, e]
theorem valV_neg {p : κ × V} {r : List (κ × V)} {k : κ} (e : ¬ p.1 = k) : valV (p :: r) k = valV r k := by simp [valV, List.find?_cons, e]
theorem valV_any (k : κ) : ∀ kvs : List (κ × V), (kvs.any fun kv => decide (kv.1 = k)) = (valV kvs k).isSome
  | [] => rfl
  | p :: r => by
    rw [List.any_cons]
    by_cases e : p.1 = k
    · simp only [valV_pos e, decide_eq_true e, Bool.true_or, Option.isSome_some]
    · rw [valV_neg e, decide_eq_false e, Bool.false_or]; exact valV_any k r
theorem RelO.isSome_eq {o : Option V} {u : Option Value} (r : RelO o u) : o.isSome = u.isSome := by
  cases o with
  | none => cases u with
    | none => rfl
    | some _ => exact (show False from r).elim
  | some _ => cases u with
    | none => exact (show False from r).elim
    | some _ => rfl
theorem RelO.getD {o : Option V} {u : Option Value} {d : V} {d' : Value} (r : RelO o u) (rd : RelV d d') : RelV (o.getD d) (u.getD d') := by
  cases o with
  | none => cases u with
    | none => exact rd
    | some _ => exact (show False from r).elim
  | some _ => cases u with
    | none => exact (show False from r).elim
    | some _ => exact r

theorem KV.val {kvs : List (κ × V)} {vs : List (κ × Value)} (r : KV kvs vs) (k : κ) : RelO (valV kvs k) (valueAt vs k) := by
  unfold KV at r
  induction r with
  | nil => exact True.intro
  | @cons p q ps qs h t ih =>
    obtain ⟨h1, h2⟩ := h
    by_cases e : p.1 = k
    · have e' : q.1 = k := h1.symm.trans e
      have b : valueAt (q :: qs) k = some q.2 := by simp [valueAt, List.find?_cons, e']
      rw [valV_pos e, b]; exact h2
    · have e' : ¬ q.1 = k := fun z => e (h1.trans z)
      have b : valueAt (q :: qs) k = valueAt qs k := by simp [valueAt, List.find?_cons, e']
      rw [valV_neg e, b]; exact ih
theorem KV.any {kvs : List (κ × V)} {vs : List (κ × Value)} (r : KV kvs vs) (k : κ) : (kvs.any fun kv => decide (kv.1 = k)) = vs.any fun kv => decide (kv.1 = k) := by
  unfold KV at r
  induction r with
  | nil => rfl
  | cons h t ih => rw [List.any_cons, List.any_cons, ih, h.1]
theorem KV.repl {kvs : List (κ × V)} {vs : List (κ × Value)} (r : KV kvs vs) (k : κ) {y : V} {u : Value} (ry : RelV y u) :
    KV (kvs.map fun kv => if kv.1 = k then (kv.1, y) else kv) (vs.map fun kv => if kv.1 = k then (kv.1, u) else kv) := by
  unfold KV at r ⊢
  induction r with
  | nil => exact .nil
  | @cons p q ps qs h t ih =>
    rw [List.map_cons, List.map_cons]
    refine .cons ?_ ih
    obtain ⟨h1, h2⟩ := h
    by_cases e : p.1 = k
    · rw [if_pos e, if_pos (h1.symm.trans e)]; exact ⟨h1, ry⟩
    · rw [if_neg e, if_neg (fun z => e (h1.trans z))]; exact ⟨h1, h2⟩
theorem KV.put {kvs : List (κ × V)} {vs : List (κ × Value)} (r : KV kvs vs) (k : κ) {y : V} {u : Value} (ry : RelV y u) : KV (putK kvs k y) (stored vs k u) := by
  unfold putK stored
  rw [r.any k]
  by_cases e : (vs.any fun kv => decide (kv.1 = k)) = true
  · rw [if_pos e, if_pos e]; exact r.repl k ry
  · rw [if_neg e, if_neg e]; exact Paired.snoc r ⟨rfl, ry⟩
theorem KV.drop {kvs : List (κ × V)} {vs : List (κ × Value)} (r : KV kvs vs) (k : κ) : KV (dropK kvs k) (without vs k) := by
  unfold KV at r ⊢
  unfold dropK without
  induction r with
  | nil => exact .nil
  | @cons p q ps qs h t ih =>
    obtain ⟨h1, h2⟩ := h
    rw [List.filter_cons, List.filter_cons]
    by_cases e : p.1 = k
    · have a : ¬ decide (p.1 ≠ k) = true := by simp [e]
      have b : ¬ decide (q.1 ≠ k) = true := by simp [h1.symm.trans e]
      rw [if_neg a, if_neg b]; exact ih
    · have e' : ¬ q.1 = k := fun z => e (h1.trans z)
      have a : decide (p.1 ≠ k) = true := by simp [e]
      have b : decide (q.1 ≠ k) = true := by simp [e']
      rw [if_pos a, if_pos b]; exact .cons ⟨h1, h2⟩ ih
theorem KV.length {kvs : List (κ × V)} {vs : List (κ × Value)} (r : KV kvs vs) : kvs.length = vs.length := Paired.length r
end

theorem kV_is {P : Program} {w : World} {k : Key} {u : Value} (r : RelV (kV k) u) : (mixKind P w).is k u = true := by
  cases k with
  | inl i => obtain ⟨t, e⟩ := (show ∃ t, u = Value.int i t from r); subst e; exact mixKind_int P w i t
  | inr x => obtain ⟨t, e⟩ := (show ∃ t, u = Value.str x t from r); subst e; exact mixKind_str P w x t
theorem items_are {P : Program} {w : World} : ∀ {ks : List Key} {us : List Value}, Vals (ks.map kV) us → ItemsAre (mixKind P w) ks us
  | [], _, r => by rw [List.map_nil] at r; cases r; exact .nil
  | k :: ks, _, r => by
    rw [List.map_cons] at r
    cases r with
    | cons h t => exact .cons (kV_is h) (items_are t)

abbrev KT (H : Hp) : List (List Key × V) → List (List Key × Addr × Value) → Prop := Paired fun p q => p.1 = q.1 ∧ H q.2.1 = some (.tup (p.1.map kV)) ∧ RelV p.2 q.2.2
theorem KT.val {H : Hp} {kvs : List (List Key × V)} {xs : List (List Key × Addr × Value)} (r : KT H kvs xs) (k : List Key) : RelO (valV kvs k) ((atKey xs k).map (·.2)) := by
  induction r with
  | nil => exact True.intro
  | @cons p q ps qs h t ih =>
    obtain ⟨h1, _, h2⟩ := h
    by_cases e : p.1 = k
    · have e' : q.1 = k := h1.symm.trans e
      have b : atKey (q :: qs) k = some q.2 := by simp [atKey, List.find?_cons, e']
      rw [valV_pos e, b]; exact h2
    · have e' : ¬ q.1 = k := fun z => e (h1.trans z)
      have b : atKey (q :: qs) k = atKey qs k := by simp [atKey, List.find?_cons, e']
      rw [valV_neg e, b]; exact ih
theorem KT.repl {H : Hp} {kvs : List (List Key × V)} {xs : List (List Key × Addr × Value)} (r : KT H kvs xs) (k : List Key) {y : V} {u : Value} (ry : RelV y u) :
    KT H (kvs.map fun kv => if kv.1 = k then (kv.1, y) else kv) (xs.map (putAt k u)) := by
  induction r with
  | nil => exact .nil
  | @cons p q ps qs h t ih =>
    rw [List.map_cons, List.map_cons]
    refine .cons ?_ ih
    obtain ⟨h1, h2, h3⟩ := h
    unfold putAt
    by_cases e : p.1 = k
    · rw [if_pos e, if_pos (h1.symm.trans e)]; exact ⟨h1, h2, ry⟩
    · rw [if_neg e, if_neg (fun z => e (h1.trans z))]; exact ⟨h1, h2, h3⟩
theorem KT.put {H : Hp} {kvs : List (List Key × V)} {xs : List (List Key × Addr × Value)} (r : KT H kvs xs) (k : List Key) {b : Addr} {y : V} {u : Value} (hb : H b = some (.tup (k.map kV))) (ry : RelV y u) :
    KT H (putK kvs k y) (storedH xs k b u) := by
  have e : (kvs.any fun kv => decide (kv.1 = k)) = (atKey xs k).isSome := by
    rw [valV_any, (r.val k).isSome_eq, Option.isSome_map]
  unfold putK storedH
  rw [e]
  by_cases q : (atKey xs k).isSome = true
  · rw [if_pos q, if_pos q]; exact r.repl k ry
  · rw [if_neg q, if_neg q]; exact Paired.snoc r ⟨rfl, hb, ry⟩
theorem KT.keeps {H H' : Hp} {kvs : List (List Key × V)} {xs : List (List Key × Addr × Value)} (r : KT H kvs xs) (ht : ∀ b ys, H b = some (.tup ys) → H' b = some (.tup ys)) : KT H' kvs xs :=
  Paired.mapP r fun _ _ z => ⟨z.1, ht _ _ z.2.1, z.2.2⟩

section
variable {P : Program} {w : World} {H : Hp} {h : Heap} {a : Addr}
theorem rd_of {u : HO} (ok : HOk P w H h) (e : Rd H a u) : ObjOk P w H h a u := e.ok ok
theorem key_of {ks : List Key} (ok : HOk P w H h) (e : H a = some (.tup (ks.map kV))) : (tupleKind (mixKind P w)).is h ks a := by
  obtain ⟨_, its, r, o, h1, h2, n, h3⟩ := (show ObjOk P w H h a (.tup (ks.map kV)) from ok a _ e)
  exact ⟨o, its.toArray, n, h1, h2, h3, by simpa using items_are r⟩
theorem dt_rd {kvs : List (List Key × V)} (ok : HOk P w H h) (e : Rd H a (.dT kvs)) : kvs.length ≤ sizeLine ∧ (a == sysModules) = false ∧
    ∃ xs, KT H kvs xs ∧ h.DictOfH (tupleKind (mixKind P w)) a xs := by
  obtain ⟨z, y, xs, r, o, es, ep, h1, h2, h3, h4, h5⟩ := (show ObjOk P w H h a (.dT kvs) from rd_of ok e)
  refine ⟨z, y, xs, r, o, es, ep, h1, h2, h3, h4, fun x hx => ?_, h5⟩
  have all : ∀ {l : List (List Key × V)} {m : List (List Key × Addr × Value)}, KT H l m → ∀ x ∈ m, (tupleKind (mixKind P w)).is h x.1 x.2.1 := by
    intro l m q
    induction q with
    | nil => intro x hx; exact nomatch hx
    | @cons p q ps qs hq t ih =>
      intro x hx
      rcases List.mem_cons.mp hx with e | hx
      · subst e
        exact key_of ok (by rw [← hq.1]; exact hq.2.1)
      · exact ih x hx
  exact all r x hx
theorem dt_of {kvs : List (List Key × V)} (ok : HOk P w H h) (e : H a = some (.dT kvs)) : kvs.length ≤ sizeLine ∧ (a == sysModules) = false ∧
    ∃ xs, KT H kvs xs ∧ h.DictOfH (tupleKind (mixKind P w)) a xs := dt_rd ok (.inl e)
end

def DGet (H : Hp) (a : Addr) (y : V) (r : Option V) : Prop :=
  (∃ kvs k, Rd H a (.dK kvs) ∧ y = kV k ∧ r = valV kvs k) ∨ ∃ kvs k b, Rd H a (.dT kvs) ∧ y = .ref b ∧ H b = some (.tup (k.map kV)) ∧ r = valV kvs k
def DPut (H : Hp) (a : Addr) (y v : V) (H' : Hp) : Prop :=
  (∃ kvs k, H a = some (.dK kvs) ∧ y = kV k ∧ kvs.length < sizeLine ∧ H' = upd H a (.dK (putK kvs k v))) ∨
  ∃ kvs k b, H a = some (.dT kvs) ∧ y = .ref b ∧ H b = some (.tup (k.map kV)) ∧ kvs.length < sizeLine ∧ H' = upd H a (.dT (putK kvs k v))
theorem DGet.k {H : Hp} {a : Addr} {kvs : List (Key × V)} {k : Key} (e : H a = some (.dK kvs)) : DGet H a (kV k) (valV kvs k) := .inl ⟨kvs, k, .inl e, rfl, rfl⟩
theorem DGet.t {H : Hp} {a b : Addr} {kvs : List (List Key × V)} {k : List Key} (e : H a = some (.dT kvs)) (eb : H b = some (.tup (k.map kV))) : DGet H a (.ref b) (valV kvs k) := .inr ⟨kvs, k, b, .inl e, rfl, eb, rfl⟩
theorem DPut.k {H : Hp} {a : Addr} {kvs : List (Key × V)} {k : Key} {v : V} (e : H a = some (.dK kvs)) (hl : kvs.length < sizeLine) : DPut H a (kV k) v (upd H a (.dK (putK kvs k v))) := .inl ⟨kvs, k, e, rfl, hl, rfl⟩
theorem DPut.t {H : Hp} {a b : Addr} {kvs : List (List Key × V)} {k : List Key} {v : V} (e : H a = some (.dT kvs)) (eb : H b = some (.tup (k.map kV))) (hl : kvs.length < sizeLine) :
    DPut H a (.ref b) v (upd H a (.dT (putK kvs k v))) := .inr ⟨kvs, k, b, e, rfl, eb, hl, rfl⟩

section
variable {X : Cx} {pins : List (Addr × Obj)} {σ : St} {H : Hp} {s : Shared} {a : Addr} {y v : V} {u r : Value} {o : Option V} {A : Around} {E : Value → Shared → Prop}

theorem Inv.big (I : Inv X pins σ H s) : sysModules < s.heap.objs.size := by
  have h : mainGlobals < s.heap.objs.size := (I.mod.glob.keeps I.bk).lt
  exact Nat.lt_trans (by decide) h

end

section
variable {X : Cx} {pins : List (Addr × Obj)} {σ : St} {H : Hp} {s : Shared} {a : Addr} {kvs : List (Key × V)} {k : Key} {u : Value} {A : Around} {E : Value → Shared → Prop}
end

def NoSl (i : Expr) : Prop := ∀ ov iv, subscripted i false ov iv = operate [ov, iv] (getItem ov iv)
theorem subD_of {prog : Program} {w : World} {A : Around} {E : Value → Shared → Prop} {s : Shared} {env : Env} {value slice : Expr} {pos : Pos} {T id : String} {Q : Value → Shared → Prop}
    (hl : typeLookup (.type T) "__getitem__" = pure (some (.builtin id))) (hs : NoSl slice)
    (h : wpAny (model prog w) A (eval value env) (fun o s₁ => wpAny (model prog w) A (eval slice env) (fun i s₂ => s₂.TypeIs o T ∧ wpAny (model prog w) A (getItem o i) Q E s₂) E s₁) E s) :
    wpAny (model prog w) A (eval (.Subscript value slice pos) env) Q E s := by
  refine Subscript_ (wpAny_mono h (fun o s₁ h₁ => wpAny_mono h₁ (fun i s₂ h₂ => ?_) fun _ _ x => x) fun _ _ x => x)
  obtain ⟨hT, h₂⟩ := h₂
  unfold subscriptTail
  refine wpAny_bind ?_
  rw [getitemInPython_of_ne hT.not_modules]
  refine wpAny_bind (wpAny_specialOf hT hl ?_)
  have fin : wpAny (model prog w) A (subscripted slice false o i) (fun r s₃ => wpAny (model prog w) A (letTemporaryGo value o r >>= fun _ => pure r) Q E s₃) E s₂ := by
    rw [hs o i]
    exact wpAny_operating (wpAny_mono h₂ (fun r s₃ h₃ => wpAny_bind (wpAny_letTemporaryGo (wpAny_pure h₃))) fun _ _ x => x)
  first
    | exact wpAny_pure (wpAny_bind fin)
    | exact wpAny_bind (wpAny_pure (wpAny_bind fin))
    | exact wpAny_bind fin

section
variable {X : Cx} {o i e value : Expr} {pos pos' tpos : Pos} {td ty tv : TE}
end

section
variable {X : Cx} {pos : Pos}
end

structure M1 (X : Cx) (o : Expr) (m : Str) (apos : Pos) (e : Expr) (cpos : Pos) : Prop where
  base : attributeBase o m X.env (eval o X.env) = eval o X.env
  few : ((backTo cpos (starEach [e] X.env)).all (fun x => !x.1) && (backToKw cpos (keywordEach [] X.env)).all (fun x => x.1.isSome)
    && decide (([e] : List Expr).length + ([] : List Keyword).length + (if ([] : List Keyword).isEmpty then 0 else 1) < 30)) = true
  line : (apos.endLine == cpos.line) = true
  trees : backTo cpos (starEach [e] X.env) = [(false, eval e X.env)]
structure M2 (X : Cx) (o : Expr) (m : Str) (apos : Pos) (e f : Expr) (cpos : Pos) : Prop where
  base : attributeBase o m X.env (eval o X.env) = eval o X.env
  few : ((backTo cpos (starEach [e, f] X.env)).all (fun x => !x.1) && (backToKw cpos (keywordEach [] X.env)).all (fun x => x.1.isSome)
    && decide (([e, f] : List Expr).length + ([] : List Keyword).length + (if ([] : List Keyword).isEmpty then 0 else 1) < 30)) = true
  line : (apos.endLine == cpos.line) = true
  trees : backTo cpos (starEach [e, f] X.env) = [(false, eval e X.env), (false, eval f X.env)]

section
variable {X : Cx} {pins : List (Addr × Obj)} {σ : St} {H : Hp} {s : Shared} {a : Addr} {y d : V} {u r : Value} {o : Option V} {A : Around} {E : Value → Shared → Prop}
end

section
variable {X : Cx} {o e f : Expr} {apos cpos : Pos} {td ty tx : TE}
end

section
variable {X : Cx} {pins : List (Addr × Obj)} {σ : St} {H : Hp} {s : Shared} {a : Addr} {kvs : List (Key × V)} {A : Around} {E : Value → Shared → Prop}
end

section
variable {X : Cx} {pins : List (Addr × Obj)} {σ : St} {H : Hp} {s : Shared} {a : Addr} {y : V} {u : Value} {A : Around} {E : Value → Shared → Prop}
end
end L2

namespace Att
open PySem PySem.W PySem.Calls PyProof.Rows

theorem ints_of_wellAll {P : Params} {h : Heap} : ∀ (ns : List Int) (vs : List Value), WellAll P h vs (ns.map WData.int) → IntsAre vs ns := by
  intro ns
  induction ns with
  | nil =>
    intro vs w
    rw [List.map_nil] at w
    cases w
    exact .nil
  | cons n ns ih =>
    intro vs w
    rw [List.map_cons] at w
    cases w with
    | cons a b =>
      cases a
      exact .cons _ _ (ih _ b)

theorem script_of {l : OpenLaw} {n : Nat} (hn : l.most = some n) {P : Params} {h : Heap} {args : List WData} {vals : List Value}
    (hpre : l.row.toRowW.claim.pre args = true) (hwl : WellAll P h vals args) :
    ∃ a vs ns, vals = [Value.ref a] ∧ args = [WData.list (ns.map WData.int)] ∧ h.get? a = some { cls := .type "list", data := .seq vs.toArray } ∧ IntsAre vs ns ∧ ns.length ≤ n := by
  have hsh : WShape.hasAll [] args [.list .int] = true := (pre_splitW hpre).1
  have hc : l.pre.holds [] { args := args } = true := (pre_splitW hpre).2
  obtain ⟨d, r, rfl, h1, h2⟩ := hasAllW_cons hsh
  obtain rfl := hasAllW_nil h2
  obtain ⟨xs, rfl, h3⟩ := hasW_list h1
  obtain ⟨ns, rfl⟩ := items_int h3
  have hlen : ns.length ≤ n := by
    unfold OpenLaw.pre at hc
    have h4 : (WTm.not (.lt (.lit (.int (n : Int))) (.len (.arg 0)))).holds [] { args := [.list (ns.map .int)] } = true := by
      have h4 := (holds_andW hc).1
      rw [hn] at h4
      exact h4
    have h5 := condW_of h4 (w_not (w_lt w_lit (w_len_list (w_arg rfl))))
    rw [List.length_map] at h5
    refine Nat.le_of_not_lt fun q => ?_
    have q' : (n : Int) < ((ns.length : Nat) : Int) := by omega
    first
      | (rw [decide_eq_true q'] at h5; exact absurd h5 (by decide))
      | (simp at h5; omega)
  cases hwl with
  | cons w1 w2 =>
    cases w2
    cases w1 with
    | list ho hall => exact ⟨_, _, ns, rfl, rfl, ho, ints_of_wellAll ns _ hall, hlen⟩

theorem post_true (l : OpenLaw) (args : List WData) : l.row.toRowW.claim.post args (.bool true) args = true :=
  postW_of (r := l.row.toRowW) (X := (true == true))
    (show WShape.has [] (.bool true) .bool = true by first | rfl | decide | simp [WShape.has, WShape.arms, WShape.armsAll])
    (show (WTm.eq .res (.lit (.bool true))).value [] { args := args, res := some (.bool true), after := args } = some (.bool (true == true)) from w_eq_bool (w_res rfl) w_lit) rfl

theorem attach_call {l : OpenLaw} {n : Nat} {q : Program} {loose : List Str} {XP : (Str → Option Value) → Heap → Prop} {YP : World → Heap → Prop} {d : DefRec}
    (hn : l.most = some n) (hdf : d.params.defaults = [])
    (call : ∀ (w : World) (s₀ s₁ : Shared) (mg mb : Str → Option Value) (fa : Addr) (o : Obj) (pm cd doc : Value) (a : Addr) (vs : List Value) (ns : List Int),
      Ground q loose [] XP w s₀ mg mb s₁.heap → YP w s₁.heap →
      s₁.heap.get? fa = some o → o.data = .func (docDef d.name d.params d.body d.scope pm cd doc) → s₁.heap.CodeRec cd d.name → mg d.name = some (.ref fa) →
      s₁.heap.get? a = some { cls := .type "list", data := .seq vs.toArray } → IntsAre vs ns → ns.length ≤ n → s₁.gens = #[] →
      codeAny (model l.prog w) callerA (.call (.ref fa) ⟨[.ref a], []⟩) (fun r s' => r = .ok (.ret (.bool true)) ∧ OldK s₁.heap s'.heap ∧ s'.os = s₁.os ∧ AllBare s'.gens) s₁) :
    WalkO q loose XP YP l.row.toRowW d [] (fun f vs => PySem.call f vs) := by
  intro w s₀ s₁ mg mb G Y fa o pm cd doc dV kV ho hd hcd hD hmg hg args vals as hpre hlay hrd hwl hlo
  obtain rfl : dV = .none := Dflts.none hD hdf
  obtain rfl : kV = .none := Dflts.noKw hD
  obtain ⟨a, vs, ns, rfl, rfl, hobj, hints, hlen⟩ := script_of hn hpre hwl
  refine enter_call (codeAny_mono (call w s₀ s₁ mg mb fa o pm cd doc a vs ns G Y ho (fd_plain hd) hcd hmg hobj hints hlen hg) fun r s' hq => ?_)
  obtain ⟨rfl, h2, h3, h4⟩ := hq
  exact ⟨.inl ⟨.bool true, .bool true, [], rfl, fun _ => rfl, .bool true, post_true l _, fun _ => ⟨List.Pairwise.nil, fun _ hm => (nomatch hm)⟩⟩, h2, h3, h4⟩

section
variable {prog : Program} {w : World} {A : Around} {E : Value → Shared → Prop} {s : Shared} {K : Frag}

end
end Att

namespace L2
open PySem PySem.Spec PyProof.Rows

theorem vals_ints : ∀ {vs : List Value} {ns : List Int}, IntsAre vs ns → Vals (ns.map V.int) vs
  | _, _, .nil => .nil
  | _, _, .cons n t h => .cons ⟨t, rfl⟩ (vals_ints h)

def Only (H : Hp) : Prop := ∀ b, H b = none ∨ ∃ o xs, H b = some (.frz o (.lst xs))

theorem law_call {P : Program} {w : World} {K : PySem.W.Frag} {mg mb : Str → Option Value} {CX : CXT} {k : Nat} {fa a : Addr} {fd : FuncData} {x : Str} {sp : Sp} {s₁ : Shared} {vs : List Value} {ns : List Int}
    (KX : K.In s₁.heap) (hns : s₁.heap.Ns mainGlobals mg) (hb : s₁.heap.Ns builtinsNs mb) (hbb : ∀ x : Str, x ≠ "__name__" → mb x = bootBuiltins x) (hlim : s₁.heap.NoLimit) (hg : s₁.gens = #[])
    (ha : s₁.heap.get? a = some { cls := .type "list", data := .seq vs.toArray }) (hi : IntsAre vs ns) (hl : ns.length ≤ sizeLine) (hr : Room k callerA)
    (F : ∀ base : Heap, K.In base → base.Ns mainGlobals mg → FnOk P w K mg base CX k fa fd [x] sp) (hbind : ∀ (s : Shared) (u : Value), BindsTo s fd ⟨[u], []⟩ [(x, u)])
    (hsp : ∀ H : Hp, Only H → SqL K H a (ns.map V.int) → sp [.ref a] H (fun v _ => v = .bl true) fun _ _ _ => False)
    (hCX : ∀ H e s', CX [] H s₁ (fun _ _ _ => False) e s' → False) :
    codeAny (model P w) callerA (.call (.ref fa) ⟨[.ref a], []⟩) (fun r s' => r = .ok (.ret (.bool true)) ∧ OldK s₁.heap s'.heap ∧ s'.os = s₁.os ∧ AllBare s'.gens) s₁ := by
  have rv := vals_ints hi
  have lenV := hi.length
  -- from an abstract heap in which nothing but the script may be tracked
  have core : ∀ H : Hp, Only H → SqL K H a (ns.map V.int) → HOk P w H s₁.heap → (∀ b, H b ≠ none → b = a) → (H a ≠ none → K.lookup a = none) →
      codeAny (model P w) callerA (.call (.ref fa) ⟨[.ref a], []⟩) (fun r s' => r = .ok (.ret (.bool true)) ∧ OldK s₁.heap s'.heap ∧ s'.os = s₁.os ∧ AllBare s'.gens) s₁ := by
    intro H hO hS hok hA hK
    have base_of : ∀ {b : Addr} {o : Obj}, s₁.heap.get? b = some o → H b = none → (hidT s₁.heap H).get? b = some o := fun e n => hidT_get e n
    have noA : ∀ {b : Addr} {o : Obj} {es : Array DictEntry} {ep : Nat}, s₁.heap.get? b = some o → o.data = .dict es ep → H b = none := fun {b o es ep} e d => by
      cases q : H b with
      | none => rfl
      | some u =>
        have e' : b = a := hA b (by rw [q]; simp)
        subst e'
        rw [ha] at e; cases e
        have d' : Data.seq vs.toArray _ = Data.dict es ep := d
        cases d'
    have nsK : ∀ {b : Addr} {m : Str → Option Value}, s₁.heap.Ns b m → (hidT s₁.heap H).Ns b m := fun {b m} ⟨o, es, ep, e, d, r⟩ => ⟨o, es, ep, base_of e (noA e d), d, r⟩
    have hKb : K.In (hidT s₁.heap H) := fun b o e => base_of (KX b o e) (by
      cases q : H b with
      | none => rfl
      | some u =>
        have e' : b = a := hA b (by rw [q]; simp)
        subst e'
        rw [hK (by rw [q]; simp)] at e; cases e)
    have hM : Mod K mg (hidT s₁.heap H) := ⟨hKb, nsK hns, ⟨mb, nsK hb, hbb⟩, let ⟨mc, h1, h2⟩ := hlim; ⟨mc, nsK h1, h2⟩⟩
    have e0 : Env0 P w K mg (hidT s₁.heap H) callerA [] s₁ H := ⟨rfl, hM, fun b o e => of_hidT e, Nat.le_of_eq (hidT_size _ _), trivial, fun b hb => absurd (show b ∈ ([] : List Addr) from hb) (by simp), hok, .of_eq hg⟩
    refine codeAny_mono ((F _ hKb (nsK hns)).run callerA [] s₁ H ⟨[.ref a], []⟩ [.ref a] [.ref a] _ _ hr e0 (hbind s₁ (.ref a)) (.cons rfl .nil) (hsp H hO hS)) fun r s' h => ?_
    cases r with
    | error e => exact (hCX H e s' h).elim
    | ok fl =>
      cases fl with
      | next => exact False.elim h
      | brk => exact False.elim h
      | cont => exact False.elim h
      | ret u =>
        obtain ⟨v, H', os, bare, un, hok', r', q⟩ := h
        have q' : v = .bl true := q
        subst q'
        obtain rfl : u = Value.bool true := r'
        refine ⟨rfl, OldK.of_keep fun b o e => ?_, os, bare⟩
        cases q : H b with
        | none => exact un.keep b o e q (by intro z; exact absurd (show b ∈ ([] : List Addr) from z) (by simp)) (by simp)
        | some u =>
          rcases hO b with z | ⟨ob, xs, z⟩
          · rw [q] at z; cases z
          · have z2 := un.frzs b ob _ z
            obtain ⟨e1, _⟩ := hok b _ z
            obtain ⟨e2, _⟩ := hok' b _ z2
            rw [e] at e1; cases e1
            exact e2
  cases hk : K.lookup a with
  | some o =>
    -- the script is one of the module's own objects
    have e := KX a o hk
    rw [ha] at e
    cases e
    refine core (fun _ => none) (fun _ => .inl rfl) (.inr ⟨_, vs.toArray, _, hk, rfl, rfl, rfl, by rw [List.size_toArray, lenV]; exact hl, by simpa using rv⟩) (fun b u z => by have z' : (none : Option HO) = some u := z; cases z') (fun b z => absurd rfl z) fun z => absurd rfl z
  | none =>
    refine core (fun b => if b = a then some (.frz { cls := .type "list", data := .seq vs.toArray } (.lst (ns.map V.int))) else none) (fun b => ?_) (.inl (.inr ⟨{ cls := .type "list", data := .seq vs.toArray }, if_pos rfl⟩)) (fun b u z => ?_) (fun b z => ?_) fun _ => hk
    · by_cases hb : b = a
      · exact .inr ⟨_, _, if_pos hb⟩
      · exact .inl (if_neg hb)
    · by_cases hb : b = a
      · have z' := (if_pos hb).symm.trans z
        cases z'
        subst hb
        exact ⟨ha, by rw [List.length_map]; exact hl, vs, _, rv, ha⟩
      · have z' := (if_neg hb).symm.trans z
        cases z'
    · by_cases hb : b = a
      · exact hb
      · exact absurd (if_neg hb) z
end L2

namespace L2
open PySem PySem.Spec PyProof.Rows

theorem walk_of {l : PySem.W.OpenLaw} {n k : Nat} {q : Program} {loose : List Str} {XP : (Str → Option Value) → Heap → Prop} {YP : World → Heap → Prop} {d : DefRec} {K : Params → PySem.W.Frag} {CX : World → CXT} {sp : World → Sp} {x : Str}
    (hn : l.most = some n) (hn2 : n ≤ sizeLine) (hdf : d.params.defaults = []) (hr : Room k callerA)
    (hY : ∀ (w : World) (h : Heap), YP w h → (K w.params).In h)
    (F : ∀ (w : World) (mg : Str → Option Value) (fa : Addr) (h : Heap), (K w.params).In h → h.Ns mainGlobals mg → mg d.name = some (.ref fa) →
      ∃ fd : FuncData, (∀ (s : Shared) (u : Value), BindsTo s fd ⟨[u], []⟩ [(x, u)]) ∧
        ∀ base : Heap, (K w.params).In base → base.Ns mainGlobals mg → FnOk l.prog w (K w.params) mg base (CX w) k fa fd [x] (sp w))
    (hsp : ∀ (w : World) (H : Hp) (a : Addr) (ns : List Int), ns.length ≤ n → Only H → SqL (K w.params) H a (ns.map V.int) → sp w [.ref a] H (fun v _ => v = .bl true) fun _ _ _ => False)
    (hCX : ∀ (w : World) (H : Hp) (s : Shared) (e : Value) (s' : Shared), CX w [] H s (fun _ _ _ => False) e s' → False) :
    PySem.W.WalkO q loose XP YP l.row.toRowW d [] (fun f vs => PySem.call f vs) := by
  refine Att.attach_call hn hdf fun w s₀ s₁ mg mb fa o pm cd doc a vs ns G Y ho hd hcd hmg hobj hints hlen hg => ?_
  have KX := hY w _ Y
  obtain ⟨fd, hb, hF⟩ := F w mg fa _ KX G.T.g hmg
  exact law_call KX G.T.g G.T.b G.T.builtins G.T.nolimit hg hobj hints (Nat.le_trans hlen hn2) hr hF hb (fun H hO hS => hsp w H a ns hlen hO hS) fun H e s' => hCX w H s₁ e s'
theorem walk_ofK {l : PySem.W.OpenLaw} {n k : Nat} {q : Program} {loose : List Str} {XP : (Str → Option Value) → Heap → Prop} {YP : World → Heap → Prop} {d : DefRec} {K : Params → PySem.W.Frag} {CX : CXT} {sp : PySem.W.Frag → Sp} {x : Str}
    (hn : l.most = some n) (hn2 : n ≤ sizeLine) (hdf : d.params.defaults = []) (hr : Room k callerA)
    (hY : ∀ (w : World) (h : Heap), YP w h → (K w.params).In h)
    (F : ∀ (w : World) (mg : Str → Option Value) (fa : Addr) (h : Heap), (K w.params).In h → h.Ns mainGlobals mg → mg d.name = some (.ref fa) →
      ∃ fd : FuncData, (∀ (s : Shared) (u : Value), BindsTo s fd ⟨[u], []⟩ [(x, u)]) ∧
        ∀ base : Heap, (K w.params).In base → base.Ns mainGlobals mg → FnOk l.prog w (K w.params) mg base CX k fa fd [x] (sp (K w.params)))
    (hsp : ∀ (K : PySem.W.Frag) (H : Hp) (a : Addr) (ns : List Int), ns.length ≤ n → Only H → SqL K H a (ns.map V.int) → sp K [.ref a] H (fun v _ => v = .bl true) fun _ _ _ => False)
    (hCX : ∀ (H : Hp) (s : Shared) (e : Value) (s' : Shared), CX [] H s (fun _ _ _ => False) e s' → False) :
    PySem.W.WalkO q loose XP YP l.row.toRowW d [] (fun f vs => PySem.call f vs) :=
  walk_of (K := K) (CX := fun _ => CX) (sp := fun w => sp (K w.params)) hn hn2 hdf hr hY F (fun w H a ns h1 h2 h3 => hsp (K w.params) H a ns h1 h2 h3) fun _ H s e s' => hCX H s e s'
end L2

namespace L2
open PySem PySem.Spec PyProof.Rows

def defArgs (s : Stmt) : Arguments := match s with
  | .FunctionDef _ a _ _ _ _ _ _ _ _ => a
  | _ => { posonlyargs := [], args := [], vararg := none, kwonlyargs := [], kw_defaults := [], kwarg := none, defaults := [] }
def defBody (s : Stmt) : List Stmt := match s with
  | .FunctionDef _ _ b _ _ _ _ _ _ _ => b
  | _ => []
def defScope (s : Stmt) : Scope := match s with
  | .FunctionDef _ _ _ _ _ _ sc _ _ _ => sc
  | _ => { kind := .function, names := [], isGenerator := false, isCoroutine := false }

abbrev CX0 : CXT := fun _ _ _ _ _ _ => False
abbrev E0 : XK := fun _ _ _ => False
theorem pass0 {X : Cx} : Passes CX0 X E0 := fun _ _ _ _ _ _ _ h => h.elim

structure Fun (K : PySem.W.Frag) (x qual : Str) (st : Stmt) (f : Addr) (fd : FuncData) : Prop where
  ex : ∃ (oc : Value) (od : Option Addr) (kV doc pm : Value) (an : Option Addr) (cdv ct : Value) (osl : Array (Option Value)),
    fd = PySem.W.fnOf x qual (defArgs st) (defBody st) (defScope st) .none kV doc pm an cdv ct ∧ K.lookup f = some ⟨oc, od, .func fd, osl⟩ ∧ PySem.W.codeIn K cdv qual = true
  kp : PySem.W.keepIn K (.ref f) = true
section
variable {P : Program} {w : World} {K : PySem.W.Frag} {mg : Str → Option Value} {base : Heap}
theorem Fun.ok {x qual : Str} {st : Stmt} {f : Addr} {fd : FuncData} {N ps : List Str} {k : Nat} {sp : Sp} (F : Fun K x qual st f fd) (S : FnScope N ps (defScope st)) (len : ∀ vs H Q E, sp vs H Q E → vs.length = ps.length)
    (hbody : ∀ (cdv : Value) (A : Around) (outer : List Env) (s : Shared) (H : Hp) (vs : List V) (Q : VK) (E : XK), Room k (A.deeper (envOfC qual (defScope st) s.heap.objs.size f cdv)) → sp vs H Q E →
      ∃ t, PSs (cxOf CX0 P w K mg base N qual (defScope st) f cdv A outer s H E).nox (defBody st) t ∧ t { nx := fun _ H' => Q .non H', rt := Q } (start N vs) H) : FnOk P w K mg base CX0 (k + 1) f fd ps sp := by
  obtain ⟨oc, od, kV, doc, pm, an, cdv, ct, osl, rfl, lk, hcd⟩ := F.ex
  refine fn_of lk hcd S len fun A outer s H vs Q E hr hsp => ?_
  obtain ⟨t, h, q⟩ := hbody cdv A outer s H vs Q E hr hsp
  exact ⟨t, h.nox, q⟩
theorem Fun.binds {x qual : Str} {st : Stmt} {f : Addr} {fd : FuncData} {ps : List Str} (F : Fun K x qual st f fd)
    (h : ∀ (kV doc pm : Value) (an : Option Addr) (cdv ct : Value) (us : List Value), us.length = ps.length → bindArgs (PySem.W.fnOf x qual (defArgs st) (defBody st) (defScope st) .none kV doc pm an cdv ct) ⟨us, []⟩ = pure (ps.zip us)) : Binds K fd ps [] := by
  obtain ⟨oc, od, kV, doc, pm, an, cdv, ct, osl, rfl, lk, hcd⟩ := F.ex
  exact .all (h kV doc pm an cdv ct)
theorem fun_mk {x qual : Str} {st : Stmt} {f : Addr} {oc : Value} {od an : Option Addr} {osl : Array (Option Value)} {kV doc pm cdv ct : Value} (l : K.lookup f = some ⟨oc, od, .func (PySem.W.fnOf x qual (defArgs st) (defBody st) (defScope st) .none kV doc pm an cdv ct), osl⟩)
    (c : PySem.W.codeIn K cdv qual = true) (k : PySem.W.keepIn K (.ref f) = true) : Fun K x qual st f (PySem.W.fnOf x qual (defArgs st) (defBody st) (defScope st) .none kV doc pm an cdv ct) := ⟨⟨oc, od, kV, doc, pm, an, cdv, ct, osl, rfl, l, c⟩, k⟩
end
theorem small1000 {n : Nat} (h : n ≤ 1000) : n < sizeLine := Nat.lt_of_le_of_lt h (by decide)

section
variable {X : Cx}
end

theorem iteF {A B : Prop} (h : B) : if false = true then A else B := by
  rw [if_neg Bool.false_ne_true]
  exact h
theorem iteT {A B : Prop} (h : A) : if true = true then A else B := by
  rw [if_pos rfl]
  exact h
def Same (H H' : Hp) : Prop := ∀ b o, H b = some o → H' b = some o
theorem Same.refl (H : Hp) : Same H H := fun _ _ h => h
theorem Same.trans {H H1 H2 : Hp} (a : Same H H1) (b : Same H1 H2) : Same H H2 := fun c o h => b c o (a c o h)
theorem Same.free {H H' : Hp} (e : Same H H') {l : Addr} (h : H' l = Option.none) : H l = Option.none := by
  cases q : H l with
  | none => rfl
  | some o =>
    rw [e l o q] at h
    cases h
theorem Same.seq {K : PySem.W.Frag} {H H' : Hp} {a : Addr} {xs : List V} (e : Same H H') (h : SqL K H a xs) : SqL K H' a xs := by
  rcases h with (h | ⟨o, h⟩) | h
  · exact .inl (.inl (e _ _ h))
  · exact .inl (.inr ⟨o, e _ _ h⟩)
  · exact .inr h

section
variable {κ : Type} [DecidableEq κ]
end
end L2
set_option maxRecDepth 100000
set_option maxHeartbeats 4000000
namespace L2
open PySem PySem.Spec PyProof.Rows

theorem Inv.track {X : Cx} {pins : List (Addr × Obj)} {σ : St} {H : Hp} {s : Shared} {D : Addr} {ys : List V} {us : List Value} {n : Nat} (I : Inv X pins σ H s)
    (hD : s.heap.get? D = some { cls := .type "list", data := .seq us.toArray n }) (r : Vals ys us) (hz : ys.length ≤ sizeLine) (hn : H D = none) (hs : X.s₀.heap.objs.size ≤ D) (hL : D ≠ X.env.locals)
    (hc : ∀ x c, X.env.cells.lookup x = some c → c ≠ D) (hp : ∀ p ∈ X.pn ++ pins, p.1 ≠ D) : Inv X pins σ (upd H D (.lst ys)) s := by
  have ne : ∀ b u, H b = some u → b ≠ D := fun b u e => ne_of_none e hn
  refine I.step (g' := s.gens) (d' := s.drawn) (t' := s.toks) (h' := s.heap) (ch := [D]) (fun b hb => ?_) (fun b o _ _ _ e _ => e) (fun b o _ _ _ e _ => ⟨o.slots, e⟩) (fun b o hc e n => ?_) (fun b o _ e => ⟨o, e⟩)
    (fun b xs e => by rw [upd_ne (ne b _ e)]; exact e) (fun b o u e => by rw [upd_ne (ne b _ e)]; exact e) (fun b ps e => ⟨#[], by rw [upd_ne (ne b _ e), e]; simp⟩) (fun m hm => hm) (fun b u e => ?_) I.bare
  · have e : b = D := by simpa using hb
    subst e
    exact ⟨.inr hs, hL, hc, hp⟩
  · rw [upd_ne (by simpa using hc)]
    exact n
  · by_cases hb : b = D
    · subst hb
      rw [upd_same] at e
      cases e
      exact ⟨hz, us, n, r, hD⟩
    · rw [upd_ne hb] at e
      exact (I.hok b u e).stay (fun _ _ _ q => q) (fun c q => by rw [upd_ne (ne c _ q)]; exact q) fun c xs q => by rw [upd_ne (ne c _ q)]; exact q

def closOf (cells : List (Str × Addr)) : List (Str × NameKind) → List (Str × Addr) → List (Str × Addr)
  | [], acc => acc
  | (n, k) :: r, acc => if k == .free then closOf cells r ((n, (cells.lookup n).getD 0) :: acc) else closOf cells r acc
structure Clos (X : Cx) (scope : Scope) (cl : List (Str × Addr)) : Prop where
  eq : closureFor scope X.env = pure cl
  sub : ∀ x c, cl.lookup x = some c → X.env.cells.lookup x = some c
  all : ∀ x, scope.names.lookup x = some .free → ∃ c, cl.lookup x = some c
theorem closOf_eq {env : Env} : ∀ (names : List (Str × NameKind)) (acc : List (Str × Addr)), (∀ p ∈ names, p.2 = .free → ∃ c, env.cells.lookup p.1 = some c) →
    (forIn names acc fun x r => (match x with | (name, kind) => if (kind == NameKind.free) = true then (do let a ← cellOf env name; pure (ForInStep.yield ((name, a) :: r))) else pure (ForInStep.yield r) : Sem (ForInStep (List (Str × Addr))))) = (pure (closOf env.cells names acc) : Sem (List (Str × Addr)))
  | [], acc, _ => rfl
  | (n, k) :: r, acc, h => by
    rw [List.forIn_cons]
    cases hk : (k == NameKind.free) with
    | true =>
      obtain ⟨c, hc⟩ := h (n, k) List.mem_cons_self (by simpa using hk)
      have hc' : env.cells.lookup n = some c := hc
      have e : cellOf env n = pure c := by unfold cellOf; rw [hc']
      have ih := closOf_eq r ((n, c) :: acc) fun p hp => h p (List.mem_cons_of_mem _ hp)
      have e2 : closOf env.cells ((n, k) :: r) acc = closOf env.cells r ((n, c) :: acc) := by
        show (if (k == NameKind.free) = true then _ else _) = _
        rw [if_pos hk, hc']; rfl
      rw [e2, ← ih]
      simp only [hk, if_true, e]
      rfl
    | false =>
      have ih := closOf_eq r acc fun p hp => h p (List.mem_cons_of_mem _ hp)
      have e2 : closOf env.cells ((n, k) :: r) acc = closOf env.cells r acc := by
        show (if (k == NameKind.free) = true then _ else _) = _
        rw [if_neg (by rw [hk]; exact Bool.false_ne_true)]
      rw [e2, ← ih]
      simp only [hk]
      rfl
theorem closOf_sub (cells : List (Str × Addr)) : ∀ (names : List (Str × NameKind)) (acc : List (Str × Addr)), (∀ p ∈ names, p.2 = .free → ∃ c, cells.lookup p.1 = some c) → (∀ p ∈ acc, cells.lookup p.1 = some p.2) → ∀ p ∈ closOf cells names acc, cells.lookup p.1 = some p.2
  | [], _, _, h => h
  | (n, k) :: r, acc, hn, h => by
    unfold closOf
    split
    · rename_i hk
      obtain ⟨c, hc⟩ := hn (n, k) List.mem_cons_self (by simpa using hk)
      refine closOf_sub cells r _ (fun p hp => hn p (List.mem_cons_of_mem _ hp)) fun p hp => ?_
      rcases List.mem_cons.mp hp with rfl | hp
      · have hc' : cells.lookup n = some c := hc
        show cells.lookup n = some ((cells.lookup n).getD 0)
        rw [hc']; rfl
      · exact h p hp
    · exact closOf_sub cells r _ (fun p hp => hn p (List.mem_cons_of_mem _ hp)) h
theorem closOf_acc (cells : List (Str × Addr)) : ∀ (names : List (Str × NameKind)) (acc : List (Str × Addr)) (x : Str), (∃ c, (x, c) ∈ acc) → ∃ c, (x, c) ∈ closOf cells names acc
  | [], _, _, h => h
  | (n, k) :: r, acc, x, h => by
    unfold closOf
    split
    · exact closOf_acc cells r _ x (let ⟨c, hc⟩ := h; ⟨c, List.mem_cons_of_mem _ hc⟩)
    · exact closOf_acc cells r _ x h
theorem closOf_all (cells : List (Str × Addr)) : ∀ (names : List (Str × NameKind)) (acc : List (Str × Addr)) (x : Str), (x, NameKind.free) ∈ names → ∃ c, (x, c) ∈ closOf cells names acc
  | [], _, _, h => nomatch h
  | (n, k) :: r, acc, x, h => by
    unfold closOf
    rcases List.mem_cons.mp h with h | h
    · cases h
      rw [if_pos (by rfl)]
      exact closOf_acc cells r _ _ ⟨_, List.mem_cons_self⟩
    · split
      · exact closOf_all cells r _ x h
      · exact closOf_all cells r _ x h
theorem lookup_of_mem {β : Type} : ∀ {l : List (Str × β)} {x : Str} {c : β}, (x, c) ∈ l → ∃ d, l.lookup x = some d
  | [], _, _, h => nomatch h
  | (n, k) :: r, x, c, h => by
    cases hx : (x == n) with
    | true => exact ⟨k, by simp [List.lookup_cons, hx]⟩
    | false =>
      rcases List.mem_cons.mp h with h | h
      · cases h
        simp at hx
      · obtain ⟨d, hd⟩ := lookup_of_mem h
        exact ⟨d, by simp [List.lookup_cons, hx, hd]⟩
theorem clos_of {X : Cx} {scope : Scope} (h : ∀ p ∈ scope.names, p.2 = .free → ∃ c, X.env.cells.lookup p.1 = some c) : ∃ cl, Clos X scope cl := by
  refine ⟨closOf X.env.cells scope.names [], ?_, fun x c e => ?_, fun x e => ?_⟩
  · have e := closOf_eq (env := X.env) scope.names [] h
    show (do let cs ← forIn scope.names [] _; pure cs) = _
    simp only [closureFor]
    rw [show (forIn scope.names ([] : List (Str × Addr)) fun x r => (match x with | (name, kind) => if (kind == NameKind.free) = true then (do let a ← cellOf X.env name; pure (ForInStep.yield ((name, a) :: r))) else pure (ForInStep.yield r) : Sem (ForInStep (List (Str × Addr))))) = pure (closOf X.env.cells scope.names []) from e]
    rfl
  · exact closOf_sub X.env.cells scope.names [] h (fun _ z => nomatch z) (x, c) (PySem.mem_of_lookup e)
  · obtain ⟨c, hc⟩ := closOf_all X.env.cells scope.names [] x (PySem.mem_of_lookup e)
    exact lookup_of_mem hc

def cxC (X : Cx) (scope : Scope) (cl : List (Str × Addr)) (C : Addr) (N : List Str) (s₂ : Shared) (H₂ : Hp) (fp : List Addr) : Cx :=
  { X with N := N, s₀ := s₂, H₀ := H₂, env := compEnvC scope cl C X.env, outer := X.stack, stack := X.stack, ex := fp, fn := fun _ => false, pn := [], xe := fun _ _ => False }

theorem lookup_rel_inv {env : Env} : ∀ {names : List (Str × NameKind)} {x : Str}, (∀ y ∈ names, y.2 ≠ .cell) →
    ((names.map fun (n, k) => if (k == NameKind.free && env.scope.kind == .function && env.kindOf n == some .cell) then (n, NameKind.cell) else (n, k)).lookup x = some .cell ∨
     (names.map fun (n, k) => if (k == NameKind.free && env.scope.kind == .function && env.kindOf n == some .cell) then (n, NameKind.cell) else (n, k)).lookup x = some .free) → names.lookup x = some .free
  | [], _, _, h => by simp at h
  | (n, k) :: r, x, hc, h => by
    have ih := @lookup_rel_inv env r x fun y hy => hc y (List.mem_cons_of_mem _ hy)
    have hk : k ≠ .cell := hc (n, k) List.mem_cons_self
    rw [List.map_cons] at h
    by_cases hf : (k == NameKind.free && env.scope.kind == .function && env.kindOf n == some .cell) = true
    · simp only [hf, if_true] at h
      cases hx : x == n with
      | true =>
        simp only [List.lookup_cons, hx]
        simp only [Bool.and_eq_true, beq_iff_eq] at hf
        rw [hf.1.1]
      | false =>
        simp only [List.lookup_cons, hx] at h ⊢
        exact ih h
    · simp only [hf] at h
      cases hx : x == n with
      | true =>
        simp only [Bool.false_eq_true, if_false, List.lookup_cons, hx] at h ⊢
        rcases h with h | h
        · cases h; exact absurd rfl hk
        · exact h
      | false =>
        simp only [Bool.false_eq_true, if_false, List.lookup_cons, hx] at h ⊢
        exact ih h
theorem lookup_rel_cap {env : Env} : ∀ {names : List (Str × NameKind)} {x : Str}, names.lookup x = some .free →
    ((names.map fun (n, k) => if (k == NameKind.free && env.scope.kind == .function && env.kindOf n == some .cell) then (n, NameKind.cell) else (n, k)).lookup x = some .cell ∨
     (names.map fun (n, k) => if (k == NameKind.free && env.scope.kind == .function && env.kindOf n == some .cell) then (n, NameKind.cell) else (n, k)).lookup x = some .free)
  | [], _, h => by simp at h
  | (n, k) :: r, x, h => by
    have ih := @lookup_rel_cap env r x
    rw [List.map_cons]
    by_cases hf : (k == NameKind.free && env.scope.kind == .function && env.kindOf n == some .cell) = true
    · simp only [hf, if_true]
      cases hx : x == n with
      | true => exact .inl (by simp [List.lookup_cons, hx])
      | false =>
        simp only [List.lookup_cons, hx] at h ⊢
        exact ih h
    · simp only [hf]
      cases hx : x == n with
      | true =>
        simp only [Bool.false_eq_true, if_false, List.lookup_cons, hx] at h ⊢
        exact .inr h
      | false =>
        simp only [Bool.false_eq_true, if_false, List.lookup_cons, hx] at h ⊢
        exact ih h

structure CapN (X : Cx) (scope : Scope) (NF : List Str) (ix : List Nat) : Prop where
  len : NF.length = ix.length
  at_ : ∀ (k : Nat) (x : Str), NF[k]? = some x → ∃ j, ix[k]? = some j ∧ X.N[j]? = some x ∧ scope.names.lookup x = some .free ∧ (X.env.kindOf x = some .cell ∨ X.env.kindOf x = some .free)
theorem CapN.nil {X : Cx} {scope : Scope} : CapN X scope [] [] := ⟨rfl, fun k x e => by simp at e⟩
theorem CapN.cons {X : Cx} {scope : Scope} {x : Str} {j : Nat} {NF : List Str} {ix : List Nat} (h : CapN X scope NF ix) (h1 : X.N[j]? = some x := by rfl) (h2 : scope.names.lookup x = some .free := by rfl)
    (h3 : X.env.kindOf x = some .cell ∨ X.env.kindOf x = some .free := by first | exact Or.inl rfl | exact Or.inr rfl) : CapN X scope (x :: NF) (j :: ix) :=
  ⟨by simp [h.len], fun k y e => by
    cases k with
    | zero => simp at e; subst e; exact ⟨j, rfl, h1, h2, h3⟩
    | succ k => simpa using h.at_ k y (by simpa using e)⟩
def capSt (nl : Nat) (ix : List Nat) (σ : St) : St := List.replicate nl none ++ ix.map fun j => (σ[j]?).join

theorem cxC_ok {X : Cx} {pins : List (Addr × Obj)} {σ : St} {H2 : Hp} {s2 : Shared} {scope : Scope} {cl : List (Str × Addr)} {C : Addr} {N : List Str} {fp : List Addr}
    (hkind : scope.kind = .function) (hcell : ∀ y ∈ scope.names, y.2 ≠ .cell) (hcl : Clos X scope cl) (I2 : Inv X pins σ H2 s2) (f2 : ∀ b ∈ fp, FpOk X pins H2 b) (flt : ∀ b ∈ fp, b < s2.heap.objs.size) (hC : s2.heap.objs.size ≤ C) :
    (cxC X scope cl C N s2 H2 fp).Ok where
  mod := I2.ok.mod
  kind := hkind
  glob := I2.ok.glob
  blt := I2.ok.blt
  above := hC
  inj := fun x y c h1 h2 => I2.ok.inj x y c (hcl.sub x c h1) (hcl.sub y c h2)
  has := fun x h => hcl.all x (lookup_rel_inv hcell h)
  cab := fun _ _ h => nomatch h
  hd := I2.ok.hd
  frames := I2.ok.frames
  stk := .inl rfl
  exf := fun b hb => ⟨Nat.ne_of_lt (Nat.lt_of_lt_of_le (flt b hb) hC), fun x c h => (f2 b hb).2.2.2.2.1 x c (hcl.sub x c h)⟩
  bs := I2.bs
  bsz := Nat.le_trans I2.ok.bsz I2.sz
  noex := fun b o e hb => by
    rcases (f2 b hb).2.2.2.1 with z | z
    · exact I2.ok.noex b o e z
    · exact absurd (Nat.lt_of_lt_of_le (Heap.lt_size e) (Nat.le_trans I2.ok.bsz z)) (Nat.lt_irrefl _)
  exfs := fun b hb hf => by
    obtain ⟨_, f1, f3, _⟩ := f2 b hb
    rcases List.mem_cons.mp (I2.stkSub b hf) with z | z
    · exact f1 z
    · exact f3 z
  funs := I2.stack
  frf := I2.stkFree

theorem inv_comp {X : Cx} {pins : List (Addr × Obj)} {σ : St} {H2 : Hp} {s2 : Shared} {scope : Scope} {cl : List (Str × Addr)} {C D : Addr} {oD : Obj} {NL NF : List Str} {ix : List Nat} {fp : List Addr} {h₁ : Heap} {t : Nat} {m : Str → Option Value}
    (hkind : scope.kind = .function) (hcell : ∀ y ∈ scope.names, y.2 ≠ .cell) (hcl : Clos X scope cl) (cap : CapN X scope NF ix) (I2 : Inv X pins σ H2 s2) (f2 : ∀ b ∈ fp, FpOk X pins H2 b) (flt : ∀ b ∈ fp, b < s2.heap.objs.size)
    (hC : s2.heap.objs.size ≤ C) (hD : s2.heap.objs.size ≤ D) (hDC : D ≠ C) (old : ∀ b u, s2.heap.get? b = some u → h₁.get? b = some u) (hn : h₁.Ns C m) (hoD : h₁.get? D = some oD) (hdD : ∀ v, oD.data ≠ .cell v) :
    Inv (cxC X scope cl C (NL ++ NF) s2 H2 fp) ((X.pn ++ pins) ++ [(D, oD)]) (capSt NL.length ix σ) H2 { s2 with heap := h₁, toks := t } := by
  refine ⟨cxC_ok hkind hcell hcl I2 f2 flt hC, rfl, I2.bare, Un.kept old, ⟨m, hn, fun i x v e1 e2 e3 => ?_⟩, fun x c h => ?_, I2.hok.fresh hC, fun x c h => I2.freeC x c (hcl.sub x c h), fun p hp => ?_, I2.hok.kept old, ?_⟩
  · have e1' : (NL ++ NF)[i]? = some x := e1
    unfold capSt at e2
    by_cases hi : i < NL.length
    · rw [List.getElem?_append_left (by simpa using hi), List.getElem?_replicate] at e2
      rw [if_pos hi] at e2
      cases e2
    · rw [List.getElem?_append_right (by simpa using hi), List.getElem?_map, List.length_replicate] at e2
      rw [List.getElem?_append_right (by simpa using hi)] at e1'
      obtain ⟨j, hj, hN, hf, hk⟩ := cap.at_ _ _ e1'
      rw [hj] at e2
      have e3' : (σ[j]?).join = some v := Option.some.inj e2
      have e4 : σ[j]? = some (some v) := by
        cases q : σ[j]? with
        | none => rw [q] at e3'; cases e3'
        | some o => rw [q] at e3'; exact congrArg some e3'
      obtain ⟨m2, _, hl⟩ := I2.loc
      have hv : Vis X.env.scope x := hk.elim (fun z => .inr (.inl z)) fun z => .inr (.inr z)
      obtain ⟨u, r, l⟩ := hl j x v hN e4 hv
      refine ⟨u, r, .inr ?_⟩
      rcases l with ⟨k, _⟩ | ⟨_, c, hc, z⟩
      · rcases hk with z | z
        · rw [z] at k; cases k
        · rw [z] at k; cases k
      · obtain ⟨c', hc'⟩ := hcl.all x hf
        have e5 := hcl.sub x c' hc'
        rw [hc] at e5
        cases e5
        obtain ⟨o, ho, hd⟩ := z
        exact ⟨lookup_rel_cap hf, c, hc', ⟨o, old _ _ ho, hd⟩⟩
  · obtain ⟨v, o, ho, hd⟩ := I2.cell x c (hcl.sub x c h)
    exact ⟨v, o, old _ _ ho, hd⟩
  · have nst : ∀ b, b ≠ X.env.locals → b ∉ X.fs → b ∉ frs X.stack := fun b h1 h2 h3 => (List.mem_cons.mp (I2.stkSub b h3)).elim h1 h2
    have hp' : p ∈ (X.pn ++ pins) ++ [(D, oD)] := by simpa [cxC] using hp
    rcases List.mem_append.mp hp' with hp' | hp'
    · obtain ⟨e, n, ne, nf, d⟩ := I2.pin p hp'
      exact ⟨old _ _ e, n, Nat.ne_of_lt (Nat.lt_of_lt_of_le (Heap.lt_size e) hC), nst _ ne nf, d⟩
    · have e : p = (D, oD) := by simpa using hp'
      subst e
      exact ⟨hoD, I2.hok.fresh hD, hDC, nst _ (Nat.ne_of_gt (Nat.lt_of_lt_of_le I2.lt hD)) (I2.nofs hD), hdD⟩
  · show (capSt NL.length ix σ).length = (NL ++ NF).length
    unfold capSt
    rw [List.length_append, List.length_append, List.length_map, List.length_replicate, cap.len]

theorem compLoop_any {prog : Program} {w : World} {A : Around} {s : Shared} {elt target iter : Expr} {ifs : List Expr} {scope : Scope} {pos : Pos} {it acc : Value} {env : Env} {R : Result → Shared → Prop} {E : Value → Shared → Prop} (I : Nat → Shared → Prop)
    (hE : ∀ e s', E e s' → notedBy (model prog w) A env (fun e s' => R (.error e) s') e s')
    (turn : ∀ n s, I n s → wpAny (model prog w) A (pyNext it) (fun r s₁ => match r with
      | none => R (.ok .next) s₁
      | some v => wpAny (model prog w) A (letOwnedTupleGo target it v) (fun _ s₁' => wpAny (model prog w) A (assign target env v) (fun _ s₂ =>
          wpAny (model prog w) A (forIn ifs true fun c r => if r = true then do let ok ← isTrue c env (eval c env); pure (ForInStep.yield ok) else pure (ForInStep.yield r)) (fun ok s₃ =>
            if ok = true then wpAny (model prog w) A (eval elt env) (fun x s₄ =>
              wpAny (model prog w) A (call (.builtin "list.append") [acc, x]) (fun _ s₅ => ∃ m, m < n ∧ I m s₅) E s₄) E s₃
            else ∃ m, m < n ∧ I m s₃) E s₂) E s₁') E s₁) E s)
    (n : Nat) (h : I n s) : codeAny (model prog w) A (.compLoop (.ListComp elt [⟨target, iter, ifs, 0⟩] scope pos) 0 it acc env) R s := by
  refine codeAny_loop rfl I (fun n s hI => ?_) n h
  show wpAny _ A ((compTurn (.ListComp elt [⟨target, iter, ifs, 0⟩] scope pos) 0 it acc env).onRaise (fun x => do noteFrame x env; theTreesLotGoes x)) _ _ s
  refine wpAny_noted ?_
  rw [compTurn_list]
  refine wpAny_bind (wpAny_standAt (wpAny_bind (wpAny_mono (turn n s hI) (fun r s₁ h₁ => ?_) hE)))
  cases r with
  | none => exact wpAny_pure h₁
  | some v =>
    refine wpAny_bind (wpAny_mono h₁ (fun _ s₁' h₁' => ?_) hE)
    refine wpAny_bind (wpAny_mono h₁' (fun _ s₂ h₂ => wpAny_bind (wpAny_mono h₂ (fun ok s₃ h₃ => ?_) hE)) hE)
    cases ok with
    | false => exact wpAny_pure ⟨rfl, h₃⟩
    | true =>
      exact wpAny_bind (wpAny_bind (wpAny_mono h₃ (fun x s₄ h₄ => wpAny_bind (wpAny_mono h₄ (fun _ s₅ h₅ => wpAny_pure (wpAny_pure ⟨rfl, h₅⟩)) hE)) hE))

def PIfs (X : Cx) (ifs : List Expr) (t : TT) : Prop :=
  ∀ (pins : List (Addr × Obj)) (s : Shared) (σ : St) (H : Hp) (Q : Bool → Hp → Prop), Inv X pins σ H s → t σ H Q →
    wpAny (model X.prog X.w) X.A (forIn ifs true fun c r => if r = true then do let ok ← isTrue c X.env (eval c X.env); pure (ForInStep.yield ok) else pure (ForInStep.yield r)) (TP X pins σ Q) X.xe s
def tTrue : TT := fun _ H Q => Q true H
theorem pifs_nil {X : Cx} : PIfs X [] tTrue := fun pins s σ H Q I h => wpAny_tests_nil ⟨H, I, h⟩
theorem pifs_one {X : Cx} {c : Expr} {t : TT} (h : PT X c t) : PIfs X [c] t := fun pins s σ H Q I hw => wpAny_tests_one (h pins s σ H Q I hw)

def CompW (J : It) (g : TG) (tt : TT) (te : TE) (Fin : List V → Hp → Prop) (σ : St) (H : Hp) : Prop := ∃ W : Nat → Nat → List V → St → Hp → Prop, (∃ m, W 0 m [] σ H) ∧ ∀ i m ys σ H, W i m ys σ H → ys.length ≤ sizeLine ∧
  ((J.stop i H ∧ Fin ys H) ∨ (J.go i H ∧ ∀ x H', J.yld i H x H' → g x σ H' fun σ2 H2 => tt σ2 H2 fun b H3 => if b = true then te σ2 H3 fun y H4 => ∃ m', m' < m ∧ W (i + 1) m' (ys ++ [y]) σ2 H4 else ∃ m', m' < m ∧ W (i + 1) m' ys σ2 H3))

abbrev lstO (us : List Value) (n : Nat) : Obj := { cls := .type "list", data := .seq us.toArray n }

theorem comp_core {X : Cx} {elt tg iter : Expr} {ifs : List Expr} {scope : Scope} {pos : Pos} {NL NF : List Str} {ix : List Nat} {cl : List (Str × Addr)} {g : TG} {tt : TT} {te : TE} {E : Value → Shared → Prop}
    {pins : List (Addr × Obj)} {σ : St} {H2 : Hp} {s2 : Shared} {it : Addr} {fp : List Addr} {tn : Nat → Heap → Prop} {J : It} {Fin : List V → Hp → Prop} {RR : Value → Addr → Result → Shared → Prop}
    (hkind : scope.kind = .function) (hcell : ∀ y ∈ scope.names, y.2 ≠ .cell) (hcl : Clos X scope cl) (cap : CapN X scope NF ix) (calm : X.calm = true)
    (hg : ∀ C s₂ H₂ fp, PG (cxC X scope cl C (NL ++ NF) s₂ H₂ fp) tg g) (hi : ∀ C s₂ H₂ fp, PIfs (cxC X scope cl C (NL ++ NF) s₂ H₂ fp) ifs tt) (he : ∀ C s₂ H₂ fp, PE (cxC X scope cl C (NL ++ NF) s₂ H₂ fp) elt te)
    (I2 : Inv X pins σ H2 s2) (T : Turn X.prog X.w X.K tg J fp it tn) (st2 : tn 0 s2.heap) (f2 : ∀ b ∈ fp, FpOk X pins H2 b) (hw : CompW J g tt te Fin (capSt NL.length ix σ) H2)
    (hRR : ∀ (D C : Addr) (us : List Value) (n : Nat) (ys : List V) (H' : Hp) (s' : Shared), Inv X pins σ H' s' → s'.heap.get? D = some (lstO us n) → Vals ys us → ys.length ≤ sizeLine → H' D = none → s2.heap.objs.size ≤ D → s2.heap.objs.size ≤ C → D ≠ C → H' C = none →
      (∃ m, s'.heap.Ns C m) → Fin ys H' → RR (.ref D) C (.ok .next) s') :
    wpAny (model X.prog X.w) X.A (newList []) (fun acc s₃ => wpAny (model X.prog X.w) X.A (newFunctionEnv scope X.env.globals cl [] X.env.qual none .none (some X.env)) (fun cenv s₄ =>
      codeAny (model X.prog X.w) X.A (.compStart (.ListComp elt [⟨tg, iter, ifs, 0⟩] scope pos) 0 (.ref it) acc { cenv with scope := relabel scope X.env }) (RR acc cenv.locals) s₄) E s₃) E s2 := by
  obtain ⟨W, ⟨m0, w0⟩, turn⟩ := hw
  have flt : ∀ b ∈ fp, b < s2.heap.objs.size := fun b hb => let ⟨o, e, _⟩ := T.obj _ _ st2 b hb; Heap.lt_size e
  refine wpAny_newObj_type (wpAny_newFunctionEnv hcell (by intro y hy; simp at hy) (fun h₁ hns₁ hsb₁ => ?_) hkind)
  dsimp only at hns₁ hsb₁ ⊢
  generalize hH2 : s2.heap.push { cls := .type "list", dict := none, data := .seq ([] : List Value).toArray } = G2 at hns₁ hsb₁ ⊢
  have hC : G2.objs.size = s2.heap.objs.size + 1 := by rw [← hH2, Heap.size_push]
  have hDC : s2.heap.objs.size ≠ G2.objs.size := by rw [hC]; exact Nat.ne_of_lt (Nat.lt_succ_self _)
  have hCle : s2.heap.objs.size ≤ G2.objs.size := by rw [hC]; exact Nat.le_succ _
  have below : ∀ b, b < s2.heap.objs.size → b ≠ G2.objs.size := fun b hb => by rw [hC]; exact Nat.ne_of_lt (Nat.lt_succ_of_lt hb)
  have old : ∀ b o, s2.heap.get? b = some o → h₁.get? b = some o := fun b o e => hsb₁.extBut b o (below b (Heap.lt_size e)) (Heap.get?_push_of_some _ (hH2 ▸ Heap.get?_push_of_some _ e))
  have hacc : h₁.get? s2.heap.objs.size = some (lstO [] 0) := hsb₁.extBut _ _ hDC (Heap.get?_push_of_some _ (hH2 ▸ Heap.get?_push_size _ rfl))
  have st1 : tn 0 h₁ := T.keep _ _ _ st2 fun b _ o e => old b o e
  have I1 := inv_comp (NL := NL) (t := s2.toks + ([] : List (Str × Value)).length) hkind hcell hcl cap I2 f2 flt hCle (Nat.le_refl _) hDC old hns₁ hacc (fun v z => by cases z)
  -- the iterator's objects, seen from within
  have stat : ∀ {H' : Hp} {oD : Obj}, (∀ b ∈ fp, H' b = none) → ∀ b ∈ fp, FpOk (cxC X scope cl G2.objs.size (NL ++ NF) s2 H2 fp) ((X.pn ++ pins) ++ [(s2.heap.objs.size, oD)]) H' b := fun {H' oD} hn b hb => by
    obtain ⟨_, f1, f3, f4, f5, f6⟩ := f2 b hb
    refine ⟨hn b hb, below b (flt b hb), fun z => (List.mem_cons.mp (I2.stkSub b z)).elim f1 f3, .inl hb, fun x c h => f5 x c (hcl.sub x c h), fun p hp => ?_⟩
    have hp' : p ∈ (X.pn ++ pins) ++ [(s2.heap.objs.size, oD)] := by simpa [cxC] using hp
    rcases List.mem_append.mp hp' with hp' | hp'
    · exact f6 p hp'
    · have e : p = (s2.heap.objs.size, oD) := by simpa using hp'
      subst e
      exact Nat.ne_of_gt (flt b hb)
  have loop : ∀ s₃ : Shared, s₃ = { s2 with heap := h₁, toks := s2.toks + ([] : List (Str × Value)).length } →
      codeAny (model X.prog X.w) X.A (.compLoop (.ListComp elt [⟨tg, iter, ifs, 0⟩] scope pos) 0 (.ref it) (.ref s2.heap.objs.size) (compEnvC scope cl G2.objs.size X.env)) (RR (.ref s2.heap.objs.size) G2.objs.size) s₃ := by
    rintro s₃ rfl
    refine compLoop_any (E := fun _ _ => False) (fun k s' => ∃ i ys us n σ' H', Inv (cxC X scope cl G2.objs.size (NL ++ NF) s2 H2 fp) ((X.pn ++ pins) ++ [(s2.heap.objs.size, lstO us n)]) σ' H' s' ∧ tn i s'.heap ∧ (∀ b ∈ fp, H' b = none) ∧ Vals ys us ∧ W i k ys σ' H')
      (fun _ _ z => z.elim) ?_ m0 ⟨0, [], [], 0, _, H2, I1, st1, fun b hb => (f2 b hb).1, .nil, w0⟩
    rintro k s' ⟨i, ys, us, n, σ', H', I', st', fr', rv, w'⟩
    obtain ⟨hlen, hcase⟩ := turn i k ys σ' H' w'
    rcases hcase with ⟨stop, fin⟩ | ⟨go, step⟩
    · refine thn (T.done (cxC X scope cl G2.objs.size (NL ++ NF) s2 H2 fp) rfl rfl rfl calm i _ s' σ' H' _ I' (stat fr') st' stop) fun r s4 ⟨hr, I4⟩ => ?_
      subst hr
      have hpD := I4.pin (s2.heap.objs.size, lstO us n) (by simp [cxC])
      have IX : Inv X pins σ H' s4 := I2.call' (ch := fp) I4.os I4.base I4.hok I4.bare fun b hb => by
        obtain ⟨_, f1, f3, f4, f5, f6⟩ := f2 b hb
        exact ⟨f4, f1, f5, f6⟩
      obtain ⟨mC, hnC, _⟩ := I4.loc
      exact hRR _ _ us n ys H' s4 IX hpD.1 rv hlen hpD.2.1 (Nat.le_refl _) hCle hDC I4.free ⟨mC, hnC⟩ fin
    · refine thn (T.item (cxC X scope cl G2.objs.size (NL ++ NF) s2 H2 fp) rfl rfl rfl calm i _ s' σ' H' _ I' (stat fr') st' go) fun r s4 ⟨u, hr, h4⟩ => ?_
      subst hr
      refine thn h4 fun _ s5 ⟨x, H5, I5, r5, y5, st5, fr5⟩ => ?_
      have I5' := I5.pinned (stat fr5) (T.obj _ _ st5)
      refine thn (hg _ _ _ _ _ s5 σ' H5 x u _ I5' r5 (step x H5 y5)) fun _ s6 ⟨σ6, H6, I6, q6⟩ => ?_
      refine thn (hi _ _ _ _ _ s6 σ6 H6 _ I6 q6) fun ok s7 ⟨H7, I7, q7⟩ => ?_
      have keepT : ∀ {σ8 : St} {H8 : Hp} {s8 : Shared}, Inv (cxC X scope cl G2.objs.size (NL ++ NF) s2 H2 fp) (((X.pn ++ pins) ++ [(s2.heap.objs.size, lstO us n)]) ++ pinsAt fp s5.heap) σ8 H8 s8 → tn (i + 1) s8.heap ∧ ∀ b ∈ fp, H8 b = none := fun {σ8 H8 s8} I8 => by
        refine ⟨T.keep _ _ _ st5 fun b hb o e => (I8.pin (b, o) (List.mem_append_right _ (List.mem_append_right _ (mem_pinsAt hb e)))).1, fun b hb => ?_⟩
        obtain ⟨o, e, d⟩ := T.obj _ _ st5 b hb
        exact (I8.pin (b, o) (List.mem_append_right _ (List.mem_append_right _ (mem_pinsAt hb e)))).2.1
      cases ok with
      | false =>
        simp only [Bool.false_eq_true, if_false] at q7 ⊢
        obtain ⟨m', hm, w7⟩ := q7
        obtain ⟨t7, n7⟩ := keepT I7
        exact ⟨m', hm, i + 1, ys, us, n, σ6, H7, I7.unpinned, t7, n7, rv, w7⟩
      | true =>
        simp only [if_true] at q7 ⊢
        refine thn (he _ _ _ _ _ s7 σ6 H7 _ I7 q7) fun yv s8 ⟨y, H8, I8, r8, m', hm, w8⟩ => ?_
        obtain ⟨t8, n8⟩ := keepT I8
        have pD := I8.pin (s2.heap.objs.size, lstO us n) (List.mem_append_right _ (List.mem_append_left _ (by simp)))
        have hul : us.length = ys.length := rv.length.symm
        refine wpAny_list_append_plain (items := us.toArray) (hsz := by simpa [hul] using hlen) ⟨n, pD.1⟩ fun h9 hl9 hs9 => ?_
        obtain ⟨n9, e9⟩ := hl9
        -- the gathering list turns
        have I8a : Inv (cxC X scope cl G2.objs.size (NL ++ NF) s2 H2 fp) (X.pn ++ pins) σ6 H8 s8 := I8.pins_of fun p hp => I8.pin p (List.mem_append_right _ (List.mem_append_left _ (List.mem_append_left _ hp)))
        have I9 : Inv (cxC X scope cl G2.objs.size (NL ++ NF) s2 H2 fp) (X.pn ++ pins) σ6 H8 { s8 with heap := h9, toks := s8.toks } := by
          refine I8a.turned (it := s2.heap.objs.size) (fun b o hb e => (hs9.2 b hb).trans e) pD.2.1 hDC (.inr (Nat.le_refl _)) (fun x c h => ?_) fun p hp => ?_
          · obtain ⟨v, o, ho, _⟩ := I2.cell x c (hcl.sub x c h)
            exact Nat.ne_of_lt (Heap.lt_size ho)
          · have hp' : p ∈ X.pn ++ pins := by simpa [cxC] using hp
            exact Nat.ne_of_lt (Heap.lt_size (I2.pin p hp').1)
        have e9' : h9.get? s2.heap.objs.size = some (lstO (us ++ [yv]) n9) := by
          rw [e9, List.push_toArray]
        refine ⟨m', hm, i + 1, ys ++ [y], us ++ [yv], n9, σ6, H8, I9.pins_of fun p hp => ?_, T.keep _ _ _ t8 fun b hb o e => (hs9.2 b (Nat.ne_of_lt (flt b hb))).trans e, n8, rv.append (.cons r8 .nil), w8⟩
        rcases List.mem_append.mp hp with hp | hp
        · exact I9.pin p (List.mem_append_right _ hp)
        · have e : p = (s2.heap.objs.size, lstO (us ++ [yv]) n9) := by simpa using hp
          subst e
          exact ⟨e9', pD.2.1, pD.2.2.1, pD.2.2.2.1, fun v z => by cases z⟩
  exact codeAny_compStart_list (loop _ rfl) (T.self _ 0 _ _ _ st1 (loop _ rfl))

def tComp (nl : Nat) (ix : List Nat) (wi : TI) (g : TG) (tt : TT) (te : TE) : TE := fun σ H Q => wi σ H fun J H1 => CompW J g tt te (fun ys H' => ∀ p, H' p = none → Q (.ref p) (upd H' p (.lst ys))) (capSt nl ix σ) H1
theorem pe_comp {X : Cx} {elt tg iter : Expr} {ifs : List Expr} {scope : Scope} {pos : Pos} {NL NF : List Str} {ix : List Nat} {wi : TI} {g : TG} {tt : TT} {te : TE}
    (hkind : scope.kind = .function) (hcell : ∀ y ∈ scope.names, y.2 ≠ .cell) (hnames : ∀ y ∈ scope.names, y.2 = .local → scope.names.lookup y.1 = some .local)
    (hfree : ∀ y ∈ scope.names, y.2 = .free → (X.env.kindOf y.1 = some .cell ∨ X.env.kindOf y.1 = some .free)) (cap : CapN X scope NF ix) (calm : X.calm = true) (hit : PI X tg iter wi)
    (hg : ∀ cl C s₂ H₂ fp, PG (cxC X scope cl C (NL ++ NF) s₂ H₂ fp) tg g) (hi : ∀ cl C s₂ H₂ fp, PIfs (cxC X scope cl C (NL ++ NF) s₂ H₂ fp) ifs tt) (he : ∀ cl C s₂ H₂ fp, PE (cxC X scope cl C (NL ++ NF) s₂ H₂ fp) elt te)
    (hs : ∀ x, foldedSetIterable iter X.env x = pure x := by intro _; rfl) :
    PE X (.ListComp elt [⟨tg, iter, ifs, 0⟩] scope pos) (tComp NL.length ix wi g tt te) := by
  intro pins s σ H Q I h
  obtain ⟨cl, hcl⟩ := clos_of (X := X) (scope := scope) fun p hp hf => I.ok.has p.1 (hfree p hp hf)
  rw [eval_ListComp]
  refine wpAny_comprehension_free (use := none) rfl hs hcl.eq hkind hnames (thn (hit pins s σ H _ I h) fun v s1 h1 => thn h1 fun itv s2 h2 => ?_)
  obtain ⟨it, fp, tn, J, H2, e, I2, T, st2, f2, hw⟩ := h2
  subst e
  refine comp_core (RR := fun acc C => compPost (model X.prog X.w) X.A X.xe none (EP X pins σ Q) acc C) hkind hcell hcl cap calm (hg cl) (hi cl) (he cl) I2 T st2 f2 hw fun D C us n ys H' s' I' eD rv hlen nD hD hC hDC nC ⟨m, hn⟩ fin => ?_
  refine ⟨m, hn, fun h' hs' => ?_⟩
  have lt2 : ∀ b, b < s2.heap.objs.size → b ≠ C ∧ b ≠ D := fun b hb => ⟨Nat.ne_of_lt (Nat.lt_of_lt_of_le hb hC), Nat.ne_of_lt (Nat.lt_of_lt_of_le hb hD)⟩
  have cl2 : ∀ x c, X.env.cells.lookup x = some c → c < s2.heap.objs.size := fun x c h => let ⟨_, _, ho, _⟩ := I2.cell x c h; Heap.lt_size ho
  have pn2 : ∀ p ∈ X.pn ++ pins, p.1 < s2.heap.objs.size := fun p hp => Heap.lt_size (I2.pin p hp).1
  have IC : Inv X pins σ H' { s' with heap := h', toks := s'.toks } := I'.turned (it := C) (fun b o hb e => (hs'.2 b hb).trans e) nC (Ne.symm (lt2 _ I2.lt).1) (.inr (Nat.le_trans I2.sz hC)) (fun x c h => (lt2 c (cl2 x c h)).1) fun p hp => (lt2 _ (pn2 p hp)).1
  have ID := IC.track (D := D) (us := us) (n := n) ((hs'.2 D hDC).trans eD) rv hlen nD (Nat.le_trans I2.sz hD) (Ne.symm (lt2 _ I2.lt).2) (fun x c h => (lt2 c (cl2 x c h)).2) fun p hp => (lt2 _ (pn2 p hp)).2
  exact ⟨.ref D, _, ID, rfl, fin D nD⟩
end L2
set_option maxRecDepth 100000
set_option maxHeartbeats 4000000
namespace DL
open PySem PySem.Spec PyProof.Rows L2

abbrev St := L2.St
inductive D where
  | non | bl (b : Bool) | int (i : Int) | str (x : Str) | tup (xs : List D) | lst (xs : List D) | fn (a : Addr) | dk (kvs : List (L2.Key × V))

mutual
def Rep (K : PySem.W.Frag) (H : Hp) : D → V → Prop
  | .non, v => v = V.non
  | .bl b, v => v = V.bl b
  | .int i, v => v = V.int i
  | .str x, v => v = V.str x
  | .tup xs, v => ∃ a vs, v = V.ref a ∧ SqT K H a vs ∧ RepL K H xs vs
  | .lst xs, v => ∃ a vs, v = V.ref a ∧ SqL K H a vs ∧ RepL K H xs vs
  | .fn a, v => v = V.ref a
  | .dk kvs, v => ∃ a, v = V.ref a ∧ Rd H a (.dK kvs)
def RepL (K : PySem.W.Frag) (H : Hp) : List D → List V → Prop
  | [], vs => vs = []
  | d :: ds, vs => ∃ v r, vs = v :: r ∧ Rep K H d v ∧ RepL K H ds r
end
mutual
def noLst : D → Bool
  | .lst _ => false
  | .dk _ => false
  | .tup xs => noLstL xs
  | _ => true
def noLstL : List D → Bool
  | [] => true
  | d :: ds => noLst d && noLstL ds
end
mutual
def dep : D → Nat
  | .lst xs => depL xs + 1
  | .tup xs => depL xs + 1
  | _ => 0
def depL : List D → Nat
  | [] => 0
  | d :: ds => max (dep d) (depL ds)
end

section
variable {K : PySem.W.Frag} {H H' : Hp}
mutual
theorem Rep.map (ht : ∀ a vs, SqT K H a vs → SqT K H' a vs) (hl : ∀ a vs, SqL K H a vs → SqL K H' a vs) (hd : ∀ a kvs, Rd H a (.dK kvs) → Rd H' a (.dK kvs)) : ∀ (d : D) (v : V), Rep K H d v → Rep K H' d v
  | .non, _, h => h
  | .bl _, _, h => h
  | .int _, _, h => h
  | .str _, _, h => h
  | .tup xs, _, h => by
    unfold Rep at h ⊢
    obtain ⟨a, vs, e, q, r⟩ := h
    exact ⟨a, vs, e, ht a vs q, RepL.map ht hl hd xs vs r⟩
  | .lst xs, _, h => by
    unfold Rep at h ⊢
    obtain ⟨a, vs, e, q, r⟩ := h
    exact ⟨a, vs, e, hl a vs q, RepL.map ht hl hd xs vs r⟩
  | .fn _, _, h => h
  | .dk kvs, _, h => by
    unfold Rep at h ⊢
    obtain ⟨a, e, q⟩ := h
    exact ⟨a, e, hd a kvs q⟩
theorem RepL.map (ht : ∀ a vs, SqT K H a vs → SqT K H' a vs) (hl : ∀ a vs, SqL K H a vs → SqL K H' a vs) (hd : ∀ a kvs, Rd H a (.dK kvs) → Rd H' a (.dK kvs)) : ∀ (ds : List D) (vs : List V), RepL K H ds vs → RepL K H' ds vs
  | [], _, h => h
  | d :: ds, _, h => by
    unfold RepL at h ⊢
    obtain ⟨v, r, e, q, t⟩ := h
    exact ⟨v, r, e, Rep.map ht hl hd d v q, RepL.map ht hl hd ds r t⟩
end
mutual
theorem Rep.mapT (ht : ∀ a vs, SqT K H a vs → SqT K H' a vs) : ∀ (d : D) (v : V), noLst d = true → Rep K H d v → Rep K H' d v
  | .non, _, _, h => h
  | .bl _, _, _, h => h
  | .int _, _, _, h => h
  | .str _, _, _, h => h
  | .tup xs, _, n, h => by
    unfold noLst at n
    unfold Rep at h ⊢
    obtain ⟨a, vs, e, q, r⟩ := h
    exact ⟨a, vs, e, ht a vs q, RepL.mapT ht xs vs n r⟩
  | .lst xs, _, n, _ => by
    unfold noLst at n
    cases n
  | .fn _, _, _, h => h
  | .dk _, _, n, _ => by
    unfold noLst at n
    cases n
theorem RepL.mapT (ht : ∀ a vs, SqT K H a vs → SqT K H' a vs) : ∀ (ds : List D) (vs : List V), noLstL ds = true → RepL K H ds vs → RepL K H' ds vs
  | [], _, _, h => h
  | d :: ds, _, n, h => by
    unfold noLstL at n
    rw [Bool.and_eq_true] at n
    unfold RepL at h ⊢
    obtain ⟨v, r, e, q, t⟩ := h
    exact ⟨v, r, e, Rep.mapT ht d v n.1 q, RepL.mapT ht ds r n.2 t⟩
end
theorem same_tup (e : Same H H') {a : Addr} {xs : List V} (h : SqT K H a xs) : SqT K H' a xs := by
  rcases h with (h | ⟨o, h⟩) | h
  · exact .inl (.inl (e _ _ h))
  · exact .inl (.inr ⟨o, e _ _ h⟩)
  · exact .inr h
theorem same_rd (e : Same H H') {a : Addr} {o : HO} (h : Rd H a o) : Rd H' a o := by
  rcases h with h | ⟨u, h⟩
  · exact .inl (e _ _ h)
  · exact .inr ⟨u, e _ _ h⟩
theorem Rep.mono (e : Same H H') {d : D} {v : V} (h : Rep K H d v) : Rep K H' d v := Rep.map (fun _ _ q => same_tup e q) (fun _ _ q => e.seq q) (fun _ _ q => same_rd e q) d v h
theorem RepL.mono (e : Same H H') {ds : List D} {vs : List V} (h : RepL K H ds vs) : RepL K H' ds vs := RepL.map (fun _ _ q => same_tup e q) (fun _ _ q => e.seq q) (fun _ _ q => same_rd e q) ds vs h

theorem Rep.non : Rep K H .non V.non := by unfold Rep; rfl
theorem Rep.bl {b : Bool} : Rep K H (.bl b) (V.bl b) := by unfold Rep; rfl
theorem Rep.int {i : Int} : Rep K H (.int i) (V.int i) := by unfold Rep; rfl
theorem Rep.str {x : Str} : Rep K H (.str x) (V.str x) := by unfold Rep; rfl
theorem Rep.fn {a : Addr} : Rep K H (.fn a) (V.ref a) := by unfold Rep; rfl
theorem Rep.tup {a : Addr} {vs : List V} {ds : List D} (h : SqT K H a vs) (r : RepL K H ds vs) : Rep K H (.tup ds) (V.ref a) := by unfold Rep; exact ⟨a, vs, rfl, h, r⟩
theorem Rep.lst {a : Addr} {vs : List V} {ds : List D} (h : SqL K H a vs) (r : RepL K H ds vs) : Rep K H (.lst ds) (V.ref a) := by unfold Rep; exact ⟨a, vs, rfl, h, r⟩
theorem RepL.nil : RepL K H [] [] := by unfold RepL; rfl
theorem RepL.cons {d : D} {v : V} {ds : List D} {vs : List V} (h : Rep K H d v) (t : RepL K H ds vs) : RepL K H (d :: ds) (v :: vs) := by unfold RepL; exact ⟨v, vs, rfl, h, t⟩
theorem repL_length : ∀ {ds : List D} {vs : List V}, RepL K H ds vs → ds.length = vs.length
  | [], vs, h => by unfold RepL at h; subst h; rfl
  | d :: ds, vs, h => by
    unfold RepL at h
    obtain ⟨v, r, e, _, t⟩ := h
    rw [e, List.length_cons, List.length_cons, repL_length t]
theorem repL_get : ∀ {ds : List D} {vs : List V} {i : Nat} {d : D}, RepL K H ds vs → ds[i]? = some d → ∃ v, vs[i]? = some v ∧ Rep K H d v
  | [], _, _, _, _, e => by simp at e
  | c :: ds, vs, i, d, h, e => by
    unfold RepL at h
    obtain ⟨v, r, e1, q, t⟩ := h
    subst e1
    cases i with
    | zero => simp at e; subst e; exact ⟨v, rfl, q⟩
    | succ i =>
      obtain ⟨u, h1, h2⟩ := repL_get (i := i) (d := d) t (by simpa using e)
      exact ⟨u, by simpa using h1, h2⟩
theorem repL_append : ∀ {ds es : List D} {vs ws : List V}, RepL K H ds vs → RepL K H es ws → RepL K H (ds ++ es) (vs ++ ws)
  | [], _, _, _, h, k => by unfold RepL at h; subst h; exact k
  | c :: ds, _, vs, _, h, k => by
    unfold RepL at h
    obtain ⟨u, r, e1, q, t⟩ := h
    subst e1
    exact RepL.cons q (repL_append t k)
theorem repL_take : ∀ {ds : List D} {vs : List V} (n : Nat), RepL K H ds vs → RepL K H (ds.take n) (vs.take n)
  | _, _, 0, _ => RepL.nil
  | [], _, n + 1, h => by unfold RepL at h; subst h; exact RepL.nil
  | c :: ds, vs, n + 1, h => by
    unfold RepL at h
    obtain ⟨u, r, e1, q, t⟩ := h
    subst e1
    exact RepL.cons q (repL_take n t)
theorem repL_drop : ∀ {ds : List D} {vs : List V} (n : Nat), RepL K H ds vs → RepL K H (ds.drop n) (vs.drop n)
  | _, _, 0, h => h
  | [], _, n + 1, h => by unfold RepL at h; subst h; exact RepL.nil
  | c :: ds, vs, n + 1, h => by
    unfold RepL at h
    obtain ⟨u, r, e1, q, t⟩ := h
    subst e1
    exact repL_drop n t
theorem repL_set {d : D} {v : V} (hd : Rep K H d v) : ∀ {ds : List D} {vs : List V} (n : Nat), RepL K H ds vs → RepL K H (ds.set n d) (vs.set n v)
  | [], _, _, h => by unfold RepL at h; subst h; exact RepL.nil
  | c :: ds, vs, n, h => by
    unfold RepL at h
    obtain ⟨u, r, e1, q, t⟩ := h
    subst e1
    cases n with
    | zero => exact RepL.cons hd t
    | succ n => exact RepL.cons q (repL_set hd n t)
theorem repL_nil {vs : List V} (h : RepL K H [] vs) : vs = [] := by unfold RepL at h; exact h
theorem repL_cons {d : D} {ds : List D} {vs : List V} (h : RepL K H (d :: ds) vs) : ∃ v r, vs = v :: r ∧ Rep K H d v ∧ RepL K H ds r := by unfold RepL at h; exact h
theorem rep_tup {ds : List D} {v : V} (h : Rep K H (.tup ds) v) : ∃ a vs, v = V.ref a ∧ SqT K H a vs ∧ RepL K H ds vs := by unfold Rep at h; exact h
theorem rep_lst {ds : List D} {v : V} (h : Rep K H (.lst ds) v) : ∃ a vs, v = V.ref a ∧ SqL K H a vs ∧ RepL K H ds vs := by unfold Rep at h; exact h
theorem rep_int {i : Int} {v : V} (h : Rep K H (.int i) v) : v = V.int i := by unfold Rep at h; exact h
theorem rep_bl {i : Bool} {v : V} (h : Rep K H (.bl i) v) : v = V.bl i := by unfold Rep at h; exact h
theorem rep_str {i : Str} {v : V} (h : Rep K H (.str i) v) : v = V.str i := by unfold Rep at h; exact h
theorem rep_non {v : V} (h : Rep K H .non v) : v = V.non := by unfold Rep at h; exact h
theorem rep_fn {a : Addr} {v : V} (h : Rep K H (.fn a) v) : v = V.ref a := by unfold Rep at h; exact h
theorem rep_dk {kvs : List (L2.Key × V)} {v : V} (h : Rep K H (.dk kvs) v) : ∃ a, v = V.ref a ∧ Rd H a (.dK kvs) := by unfold Rep at h; exact h
theorem Rep.dk {kvs : List (L2.Key × V)} {a : Addr} (h : Rd H a (.dK kvs)) : Rep K H (.dk kvs) (V.ref a) := by unfold Rep; exact ⟨a, rfl, h⟩
theorem same_upd {p : Addr} {o : HO} (h : H p = none) : Same H (upd H p o) := fun b u e => by rw [upd_ne (ne_of_none e h)]; exact e
theorem rep_new_tup {p : Addr} {vs : List V} {ds : List D} (h : H p = none) (r : RepL K H ds vs) : Rep K (upd H p (.tup vs)) (.tup ds) (V.ref p) := Rep.tup (SqT.of upd_same) (r.mono (same_upd h))
theorem rep_new_lst {p : Addr} {vs : List V} {ds : List D} (h : H p = none) (r : RepL K H ds vs) : Rep K (upd H p (.lst vs)) (.lst ds) (V.ref p) := Rep.lst (SqL.of upd_same) (r.mono (same_upd h))
end

structure Ext (G H G' H' : Hp) : Prop where
  g : Same G G'
  h : Same H H'
  sub : Same G' H'
  new : ∀ b, G' b ≠ none → G b ≠ none ∨ H b = none
theorem Ext.refl {G H : Hp} (s : Same G H) : Ext G H G H := ⟨Same.refl G, Same.refl H, s, fun _ h => .inl h⟩
theorem Ext.trans {G H G1 H1 G2 H2 : Hp} (a : Ext G H G1 H1) (b : Ext G1 H1 G2 H2) : Ext G H G2 H2 :=
  ⟨a.g.trans b.g, a.h.trans b.h, b.sub, fun c h => (b.new c h).elim (fun z => a.new c z) fun z => .inr (a.h.free z)⟩
theorem Ext.laid {G H : Hp} {p : Addr} {o : HO} (s : Same G H) (hp : H p = none) : Ext G H (upd G p o) (upd H p o) := by
  refine ⟨same_upd (s.free hp), same_upd hp, fun b u e => ?_, fun b h => ?_⟩
  · by_cases hb : b = p
    · subst hb
      rw [upd_same] at e ⊢
      exact e
    · rw [upd_ne hb] at e ⊢
      exact s b u e
  · by_cases hb : b = p
    · subst hb; exact .inr hp
    · rw [upd_ne hb] at h; exact .inl h

abbrev DEnv := List (Option D)
structure OR (K : PySem.W.Frag) (own : List Nat) (G H : Hp) (σ : St) (ρ : DEnv) : Prop where
  sub : Same G H
  len : ρ.length = σ.length
  at_ : ∀ (i : Nat) (d : D), ρ[i]? = some (some d) → i ∉ own → ∃ v, σ[i]? = some (some v) ∧ Rep K G d v
  own_ : ∀ i ∈ own, ∃ p ds vs, ρ[i]? = some (some (.lst ds)) ∧ σ[i]? = some (some (V.ref p)) ∧ H p = some (.lst vs) ∧ G p = none ∧ RepL K G ds vs
  dis : ∀ i ∈ own, ∀ j ∈ own, i ≠ j → ∀ p q, σ[i]? = some (some (V.ref p)) → σ[j]? = some (some (V.ref q)) → p ≠ q
theorem OR.grow {K : PySem.W.Frag} {own : List Nat} {G H G' H' : Hp} {σ : St} {ρ : DEnv} (h : OR K own G H σ ρ) (x : Ext G H G' H') : OR K own G' H' σ ρ where
  sub := x.sub
  len := h.len
  at_ := fun i d q n => let ⟨v, h1, h2⟩ := h.at_ i d q n; ⟨v, h1, h2.mono x.g⟩
  own_ := fun i hi => by
    obtain ⟨p, ds, vs, h1, h2, h3, h4, h5⟩ := h.own_ i hi
    refine ⟨p, ds, vs, h1, h2, x.h _ _ h3, ?_, h5.mono x.g⟩
    cases q : G' p with
    | none => rfl
    | some o =>
      rcases x.new p (by rw [q]; simp) with z | z
      · exact absurd h4 z
      · rw [h3] at z; cases z
  dis := h.dis
theorem OR.set {K : PySem.W.Frag} {own : List Nat} {G H : Hp} {σ : St} {ρ : DEnv} {i : Nat} {d : D} {v : V} (h : OR K own G H σ ρ) (hi : i ∉ own) (r : Rep K G d v) : OR K own G H (σ.set i (some v)) (ρ.set i (some d)) where
  sub := h.sub
  len := by rw [List.length_set, List.length_set, h.len]
  at_ := fun j c q n => by
    by_cases hj : i = j
    · subst hj
      by_cases hi : i < ρ.length
      · rw [List.getElem?_set_self hi] at q
        cases q
        exact ⟨v, by rw [List.getElem?_set_self (by rw [← h.len]; exact hi)], r⟩
      · rw [List.getElem?_eq_none (by rw [List.length_set]; omega)] at q
        cases q
    · rw [List.getElem?_set_ne hj] at q
      rw [List.getElem?_set_ne hj]
      exact h.at_ j c q n
  own_ := fun j hj => by
    have ne : i ≠ j := fun e => hi (e ▸ hj)
    rw [List.getElem?_set_ne ne, List.getElem?_set_ne ne]
    exact h.own_ j hj
  dis := fun j hj k hk hne p q e1 e2 => by
    have ne : i ≠ j := fun e => hi (e ▸ hj)
    have ne2 : i ≠ k := fun e => hi (e ▸ hk)
    rw [List.getElem?_set_ne ne] at e1
    rw [List.getElem?_set_ne ne2] at e2
    exact h.dis j hj k hk hne p q e1 e2
def roots (own : List Nat) (σ : St) : List Addr := own.filterMap fun i => match σ[i]? with | some (some (V.ref p)) => some p | _ => none
theorem mem_roots {own : List Nat} {σ : St} {p : Addr} (h : p ∈ roots own σ) : ∃ i ∈ own, σ[i]? = some (some (V.ref p)) := by
  obtain ⟨i, hi, e⟩ := List.mem_filterMap.mp h
  refine ⟨i, hi, ?_⟩
  split at e
  · rename_i q he
    cases e
    exact he
  · cases e
theorem root_mem {own : List Nat} {σ : St} {p : Addr} {i : Nat} (hi : i ∈ own) (h : σ[i]? = some (some (V.ref p))) : p ∈ roots own σ := List.mem_filterMap.mpr ⟨i, hi, by rw [h]⟩
def relG (own : List Nat) (σ : St) (G H : Hp) : Hp := fun b => if b ∈ roots own σ then H b else G b
theorem OR.full {K : PySem.W.Frag} {own : List Nat} {G H : Hp} {σ : St} {ρ : DEnv} (h : OR K own G H σ ρ) : OR K [] (relG own σ G H) H σ ρ := by
  have s1 : Same G (relG own σ G H) := fun b o e => by
    unfold relG
    split
    · exact h.sub b o e
    · exact e
  have s2 : Same (relG own σ G H) H := fun b o e => by
    unfold relG at e
    split at e
    · exact e
    · exact h.sub b o e
  refine ⟨s2, h.len, fun i d q _ => ?_, fun i hi => (by cases hi), fun i hi => (by cases hi)⟩
  by_cases hi : i ∈ own
  · obtain ⟨p, ds, vs, h1, h2, h3, h4, h5⟩ := h.own_ i hi
    rw [h1] at q
    cases q
    refine ⟨_, h2, Rep.lst (SqL.of (xs := vs) ?_) (h5.mono s1)⟩
    unfold relG
    rw [if_pos (root_mem hi h2)]
    exact h3
  · obtain ⟨v, h1, h2⟩ := h.at_ i d q hi
    exact ⟨v, h1, h2.mono s1⟩
def Le (ρ ρ' : DEnv) : Prop := ρ.length = ρ'.length ∧ ∀ (i : Nat) (d : D), ρ[i]? = some (some d) → ρ'[i]? = some (some d)
theorem OR.le {K : PySem.W.Frag} {G H : Hp} {σ : St} {ρ ρ' : DEnv} (h : OR K [] G H σ ρ') (l : Le ρ ρ') : OR K [] G H σ ρ := ⟨h.sub, l.1.trans h.len, fun i d q n => h.at_ i d (l.2 i d q) n, fun i hi => (by cases hi), fun i hi => (by cases hi)⟩
theorem Le.set {ρ ρ' : DEnv} {i : Nat} {d : D} (h : Le ρ ρ') (hi : ρ[i]? = some none) : Le ρ (ρ'.set i (some d)) := by
  refine ⟨by rw [List.length_set]; exact h.1, fun j c q => ?_⟩
  have : i ≠ j := fun e => by subst e; rw [hi] at q; cases q
  rw [List.getElem?_set_ne this]
  exact h.2 j c q
theorem Le.refl (ρ : DEnv) : Le ρ ρ := ⟨rfl, fun _ _ h => h⟩
def capD (nl : Nat) (ix : List Nat) (ρ : DEnv) : DEnv := List.replicate nl none ++ ix.map fun j => (ρ[j]?).join
theorem OR.cap {K : PySem.W.Frag} {own : List Nat} {G H : Hp} {σ : St} {ρ : DEnv} (h : OR K own G H σ ρ) (nl : Nat) (ix : List Nat) (hx : ∀ j ∈ ix, j ∉ own) : OR K [] G H (capSt nl ix σ) (capD nl ix ρ) := by
  unfold capSt capD
  refine ⟨h.sub, by simp, fun i d q _ => ?_, fun i hi => (by cases hi), fun i hi => (by cases hi)⟩
  by_cases hi : i < nl
  · rw [List.getElem?_append_left (by simpa using hi), List.getElem?_replicate, if_pos hi] at q
    cases q
  · rw [List.getElem?_append_right (by simpa using hi), List.getElem?_map, List.length_replicate] at q
    rw [List.getElem?_append_right (by simpa using hi), List.getElem?_map, List.length_replicate]
    cases e : ix[i - nl]? with
    | none => rw [e] at q; cases q
    | some j =>
      rw [e] at q
      have q' : (ρ[j]?).join = some d := Option.some.inj q
      have q2 : ρ[j]? = some (some d) := by
        cases z : ρ[j]? with
        | none => rw [z] at q'; cases q'
        | some o => rw [z] at q'; exact congrArg some q'
      obtain ⟨v, h1, h2⟩ := h.at_ j d q2 (hx j (List.mem_of_getElem? e))
      exact ⟨v, by simp [h1], h2⟩
def tD (K : PySem.W.Frag) (own : List Nat) (f : DEnv → Option D) : TE := fun σ H Q => ∃ G ρ d, OR K own G H σ ρ ∧ f ρ = some d ∧ ∀ v G' H', Ext G H G' H' → Rep K G' d v → Q v H'
def taD (K : PySem.W.Frag) (own : List Nat) (f : DEnv → Option (List D)) : TA := fun σ H Q => ∃ G ρ ds, OR K own G H σ ρ ∧ f ρ = some ds ∧ ∀ vs G' H', Ext G H G' H' → RepL K G' ds vs → Q vs H'
def ttD (K : PySem.W.Frag) (own : List Nat) (f : DEnv → Option Bool) : TT := fun σ H Q => ∃ G ρ b, OR K own G H σ ρ ∧ f ρ = some b ∧ ∀ G' H', Ext G H G' H' → Q b H'
structure DE (X : Cx) (own : List Nat) (e : Expr) (f : DEnv → Option D) : Prop where
  ok : PE X e (tD X.K own f)
structure DA (X : Cx) (own : List Nat) (es : List Expr) (f : DEnv → Option (List D)) : Prop where
  ok : PA X es (taD X.K own f)
structure DT (X : Cx) (own : List Nat) (e : Expr) (f : DEnv → Option Bool) : Prop where
  ok : PT X e (ttD X.K own f)
structure DW (X : Cx) (own : List Nat) (e : Expr) (f : DEnv → Option Bool) : Prop where
  ok : PW X e (ttD X.K own f)

section
variable {X : Cx} {own : List Nat} {e a b c : Expr} {es : List Expr} {pos : Pos} {f fa fb fc : DEnv → Option D} {fs : DEnv → Option (List D)} {ft fu : DEnv → Option Bool}
theorem de_of {t : TE} (h : PE X e t) (hw : ∀ σ G H Q ρ d, OR X.K own G H σ ρ → f ρ = some d → (∀ v G' H', Ext G H G' H' → Rep X.K G' d v → Q v H') → t σ H Q) : DE X own e f := ⟨fun pins s σ H Q I ⟨G, ρ, d, er, e, k⟩ => h pins s σ H Q I (hw σ G H Q ρ d er e k)⟩
theorem da_of {t : TA} (h : PA X es t) (hw : ∀ σ G H Q ρ d, OR X.K own G H σ ρ → fs ρ = some d → (∀ v G' H', Ext G H G' H' → RepL X.K G' d v → Q v H') → t σ H Q) : DA X own es fs := ⟨fun p pins s σ H Q I ⟨G, ρ, d, er, e, k⟩ => h p pins s σ H Q I (hw σ G H Q ρ d er e k)⟩
theorem dt_of {t : TT} (h : PT X e t) (hw : ∀ σ G H Q ρ d, OR X.K own G H σ ρ → ft ρ = some d → (∀ G' H', Ext G H G' H' → Q d H') → t σ H Q) : DT X own e ft := ⟨fun pins s σ H Q I ⟨G, ρ, d, er, e, k⟩ => h pins s σ H Q I (hw σ G H Q ρ d er e k)⟩
theorem dw_of {t : TT} (h : PW X e t) (hw : ∀ σ G H Q ρ d, OR X.K own G H σ ρ → ft ρ = some d → (∀ G' H', Ext G H G' H' → Q d H') → t σ H Q) : DW X own e ft := ⟨fun wh pins s σ H Q I ⟨G, ρ, d, er, e, k⟩ => h wh pins s σ H Q I (hw σ G H Q ρ d er e k)⟩
def fFull (f : DEnv → Option D) : DEnv → Option D := fun ρ => (f ρ).bind fun d => if noLst d then some d else none
theorem de_full (h : DE X [] e f) : DE X own e (fFull f) := de_of h.ok fun σ G H Q ρ d er e k => by
  obtain ⟨d', e1, e2⟩ := Option.bind_eq_some_iff.mp e
  split at e2
  · rename_i hn
    cases e2
    refine ⟨relG own σ G H, ρ, d, er.full, e1, fun v G' H' x r => ?_⟩
    have hroot : ∀ b, b ∈ roots own σ → ∃ vs, G' b = some (.lst vs) := fun b hb => by
      obtain ⟨i, hi, q⟩ := mem_roots hb
      obtain ⟨p, ds, vs, h1, h2, h3, h4, h5⟩ := er.own_ i hi
      rw [q] at h2
      cases h2
      refine ⟨vs, x.g _ _ ?_⟩
      unfold relG
      rw [if_pos hb]
      exact h3
    have hG : ∀ b, b ∈ roots own σ → G b = none := fun b hb => by
      obtain ⟨i, hi, q⟩ := mem_roots hb
      obtain ⟨p, ds, vs, h1, h2, h3, h4, h5⟩ := er.own_ i hi
      rw [q] at h2
      cases h2
      exact h4
    refine k v (fun b => if b ∈ roots own σ then none else G' b) H' ⟨fun b o z => ?_, x.h, fun b o z => ?_, fun b z => ?_⟩ (Rep.mapT (fun a vs q => ?_) d v hn r)
    · have hb : b ∉ roots own σ := fun hb => by rw [hG b hb] at z; cases z
      show (if b ∈ roots own σ then none else G' b) = some o
      rw [if_neg hb]
      refine x.g _ _ ?_
      unfold relG
      rw [if_neg hb]
      exact z
    · have z' : (if b ∈ roots own σ then none else G' b) = some o := z
      split at z'
      · cases z'
      · exact x.sub _ _ z'
    · have z' : (if b ∈ roots own σ then none else G' b) ≠ none := z
      split at z'
      · exact absurd rfl z'
      · rename_i hb
        rcases x.new b z' with y | y
        · unfold relG at y
          rw [if_neg hb] at y
          exact .inl y
        · exact .inr y
    · have ne : ∀ u, G' a = some u → (∀ ws, u ≠ .lst ws) → (if a ∈ roots own σ then none else G' a) = some u := fun u e1 hu => by
        rw [if_neg (fun hb => by obtain ⟨ws, e2⟩ := hroot a hb; rw [e1] at e2; exact hu ws (Option.some.inj e2))]
        exact e1
      rcases q with (q | ⟨o, q⟩) | q
      · exact .inl (.inl (ne _ q fun _ z => nomatch z))
      · exact .inl (.inr ⟨o, ne _ q fun _ z => nomatch z⟩)
      · exact .inr q
  · cases e2

def fVar (i : Nat) : DEnv → Option D := fun ρ => (ρ[i]?).join
def fC (d : D) : DEnv → Option D := fun _ => some d
theorem join_some {ρ : DEnv} {i : Nat} {d : D} (h : (ρ[i]?).join = some d) : ρ[i]? = some (some d) := by
  cases z : ρ[i]? with
  | none => rw [z] at h; cases h
  | some o => rw [z] at h; exact congrArg some h
theorem de_var (i : Nat) {x : Str} (hi : i ∉ own := by decide) (hN : X.N[i]? = some x := by rfl) (hv : Vis X.env.scope x := by first | exact Or.inl rfl | exact Or.inr (Or.inl rfl) | exact Or.inr (Or.inr rfl)) (hd : (x == ("__debug__" : Str)) = false := by decide)
    (hcd : (x == ("__classdict__" : Str)) = false := by decide) : DE X own (.Name x pos) (fVar i) :=
  de_of (pe_var hN hv hd hcd) fun σ G H Q ρ d er e k => let ⟨v, h1, h2⟩ := er.at_ i d (join_some e) hi; ⟨v, h1, k v G H (Ext.refl er.sub) h2⟩
theorem de_c {d : D} {v : V} {t : TE} (h : PE X e t) (ht : ∀ σ H Q, Q v H → t σ H Q) (r : ∀ H, Rep X.K H d v) : DE X own e (fC d) :=
  de_of h fun σ G H Q ρ d' er e' k => by
    cases e'
    exact ht σ H Q (k v G H (Ext.refl er.sub) (r G))
theorem de_int {i : Int} {j : Nat} : DE X own (.Constant (.int i) j pos) (fC (.int i)) := de_c pe_int (fun _ _ _ h => h) fun _ => Rep.int
theorem de_str {i : Str} {j : Nat} : DE X own (.Constant (.str i) j pos) (fC (.str i)) := de_c pe_str (fun _ _ _ h => h) fun _ => Rep.str
theorem de_bl {i : Bool} {j : Nat} : DE X own (.Constant (.bool i) j pos) (fC (.bl i)) := de_c pe_bl (fun _ _ _ h => h) fun _ => Rep.bl
theorem de_non {j : Nat} : DE X own (.Constant .none j pos) (fC .non) := de_c pe_non (fun _ _ _ h => h) fun _ => Rep.non
theorem de_gint {x : Str} {i : Int} {t : Tok} (hg : Gl X x) (hm : X.mg x = some (.int i t)) (hd : (x == ("__debug__" : Str)) = false := by decide) : DE X own (.Name x pos) (fC (.int i)) :=
  de_c (pe_glob (v := V.int i) hg hm ⟨t, rfl⟩ hd) (fun _ _ _ h => h) fun _ => Rep.int

def f2 (g : D → D → Option D) (fa fb : DEnv → Option D) : DEnv → Option D := fun ρ => (fa ρ).bind fun x => (fb ρ).bind fun y => g x y
def OpD (K : PySem.W.Frag) (r : R2) (g : D → D → Option D) : Prop := ∀ {x y : V} {dx dy d : D} {G H : Hp} {Q : VK}, Same G H → Rep K G dx x → Rep K G dy y → g dx dy = some d → (∀ v G' H', Ext G H G' H' → Rep K G' d v → Q v H') → r x y H Q
theorem two {g : D → D → Option D} {r : R2} (hg : OpD X.K r g) {σ : St} {G H : Hp} {Q : VK} {ρ : DEnv} {d : D} (er : OR X.K own G H σ ρ) (e : f2 g fa fb ρ = some d) (k : ∀ v G' H', Ext G H G' H' → Rep X.K G' d v → Q v H') :
    tOp r (tD X.K own fa) (tD X.K own fb) σ H Q := by
  unfold f2 at e
  obtain ⟨x, e1, e⟩ := Option.bind_eq_some_iff.mp e
  obtain ⟨y, e2, e⟩ := Option.bind_eq_some_iff.mp e
  exact ⟨G, ρ, x, er, e1, fun u G1 H1 s1 r1 => ⟨G1, ρ, y, er.grow s1, e2, fun w G2 H2 s2 r2 => hg s2.sub (r1.mono s2.g) r2 e fun v G' H' s3 r3 => k v G' H' (s1.trans (s2.trans s3)) r3⟩⟩
theorem de_op {op : Operator} {r : R2} {g : D → D → Option D} (ho : OpR X (binaryOp op) r) (hg : OpD X.K r g) (ha : DE X own a fa) (hb : DE X own b fb) : DE X own (.BinOp a op b pos) (f2 g fa fb) :=
  de_of (pe_op ho ha.ok hb.ok) fun σ G H Q ρ d er e k => two hg er e k
theorem de_cmp {op : CmpOp} {r : R2} {g : D → D → Option D} (ho : OpR X (compareOp op) r) (hg : OpD X.K r g) (ha : DE X own a fa) (hb : DE X own b fb) (hm : behindInMarks op b = false) : DE X own (.Compare a [op] [b] pos) (f2 g fa fb) :=
  de_of (pe_cmpR ho ha.ok hb.ok hm) fun σ G H Q ρ d er e k => two hg er e k
theorem de_ix {r : R2} {g : D → D → Option D} (hr : IxR X r) (hg : OpD X.K r g) (ha : DE X own a fa) (hb : DE X own b fb) (hs : PlainIx b) : DE X own (.Subscript a b pos) (f2 g fa fb) :=
  de_of (pe_ix hr ha.ok hb.ok hs) fun σ G H Q ρ d er e k => two hg er e k

def fT (f : DEnv → Option D) : DEnv → Option Bool := fun ρ => (f ρ).bind fun d => match d with | .bl b => some b | _ => none
theorem fT_some {ρ : DEnv} {b : Bool} (h : fT f ρ = some b) : f ρ = some (.bl b) := by
  unfold fT at h
  obtain ⟨d, e, h⟩ := Option.bind_eq_some_iff.mp h
  cases d <;> first | (cases h; exact e) | cases h
theorem dt_cmp {op : CmpOp} {r : R2} {g : D → D → Option D} (ho : OpR X (compareOp op) r) (hg : OpD X.K r g) (ha : DE X own a fa) (hb : DE X own b fb) (hm : behindInMarks op b = false) : DT X own (.Compare a [op] [b] pos) (fT (f2 g fa fb)) :=
  dt_of (pt_cmpR ho ha.ok hb.ok hm) fun σ G H Q ρ d er e k => two (own := own) (Q := fun x H' => ∃ k, x = .bl k ∧ Q k H') hg er (fT_some e) fun v G' H' s' r' => by
    cases rep_bl r'
    exact ⟨d, rfl, k G' H' s'⟩
theorem dt_val (h : DE X own e f) (he : ∀ whole, isTrue e X.env whole = (do let v ← whole; standAt e.pos; holding [v] (truthy v)) := by intro _; rfl) : DT X own e (fT f) :=
  dt_of (pt_val h.ok he) fun σ G H Q ρ d er e k => ⟨G, ρ, .bl d, er, fT_some e, fun v G' H' s' r' => by
    cases rep_bl r'
    exact ⟨d, rfl, k G' H' s'⟩⟩
def truD : D → Option Bool
  | .lst xs => some (!xs.isEmpty)
  | .tup xs => some (!xs.isEmpty)
  | .bl b => some b
  | .int i => some (i != 0)
  | .non => some false
  | _ => none
theorem isEmpty_rep {K : PySem.W.Frag} {H : Hp} {ds : List D} {vs : List V} (h : RepL K H ds vs) : (!ds.isEmpty) = !vs.isEmpty := by
  have := repL_length h
  cases ds <;> cases vs <;> simp_all
theorem dt_truth (h : DE X own e f) (he : ∀ whole, isTrue e X.env whole = (do let v ← whole; standAt e.pos; holding [v] (truthy v)) := by intro _; rfl) : DT X own e (fun ρ => (f ρ).bind truD) :=
  dt_of (pt_truth h.ok he) fun σ G H Q ρ b er e k => by
    obtain ⟨d, e1, e2⟩ := Option.bind_eq_some_iff.mp e
    refine ⟨G, ρ, d, er, e1, fun v G' H' s' r' => ⟨b, ?_, k G' H' s'⟩⟩
    cases d with
    | non => cases rep_non r'; cases e2; exact (rfl : false = false)
    | bl x => cases rep_bl r'; cases e2; exact rfl
    | int i => cases rep_int r'; cases e2; exact (rfl : (i != 0) = (i != 0))
    | str x => cases e2
    | fn a => cases e2
    | dk a => cases e2
    | tup xs =>
      obtain ⟨a, vs, e3, q, r3⟩ := rep_tup r'
      subst e3
      cases e2
      exact .inr (.inl ⟨vs, same_tup s'.sub q, isEmpty_rep r3⟩)
    | lst xs =>
      obtain ⟨a, vs, e3, q, r3⟩ := rep_lst r'
      subst e3
      cases e2
      exact .inl ⟨vs, s'.sub.seq q, isEmpty_rep r3⟩
def fAnd (ft fu : DEnv → Option Bool) : DEnv → Option Bool := fun ρ => (ft ρ).bind fun b => if b then fu ρ else some false
def fOr (ft fu : DEnv → Option Bool) : DEnv → Option Bool := fun ρ => (ft ρ).bind fun b => if b then some true else fu ρ
def fNot (ft : DEnv → Option Bool) : DEnv → Option Bool := fun ρ => (ft ρ).map (!·)
variable {rest : List Expr}
theorem dw_and1 (h : DT X own a ft) : DW X own (.BoolOp .And [a] pos) ft := ⟨pw_and1 h.ok⟩
theorem dw_or1 (h : DT X own a ft) : DW X own (.BoolOp .Or [a] pos) ft := ⟨pw_or1 h.ok⟩
theorem dw_and (ha : DT X own a ft) (hb : DW X own (.BoolOp .And (b :: rest) pos) fu) : DW X own (.BoolOp .And (a :: b :: rest) pos) (fAnd ft fu) :=
  dw_of (pw_and ha.ok hb.ok) fun σ G H Q ρ d er e k => by
    obtain ⟨x, e1, e⟩ := Option.bind_eq_some_iff.mp e
    refine ⟨G, ρ, x, er, e1, fun G1 H1 s1 => ?_⟩
    cases x with
    | true => exact iteT ⟨G1, ρ, d, er.grow s1, e, fun G2 H2 s2 => k G2 H2 (s1.trans s2)⟩
    | false => cases e; exact iteF (k G1 H1 s1)
theorem dw_or (ha : DT X own a ft) (hb : DW X own (.BoolOp .Or (b :: rest) pos) fu) : DW X own (.BoolOp .Or (a :: b :: rest) pos) (fOr ft fu) :=
  dw_of (pw_or ha.ok hb.ok) fun σ G H Q ρ d er e k => by
    obtain ⟨x, e1, e⟩ := Option.bind_eq_some_iff.mp e
    refine ⟨G, ρ, x, er, e1, fun G1 H1 s1 => ?_⟩
    cases x with
    | false => exact iteF ⟨G1, ρ, d, er.grow s1, e, fun G2 H2 s2 => k G2 H2 (s1.trans s2)⟩
    | true => cases e; exact iteT (k G1 H1 s1)
theorem dt_w (h : DW X own e ft) : DT X own e ft := ⟨h.ok.pt⟩
theorem dt_not (h : DT X own a ft) : DT X own (.UnaryOp .Not a pos) (fNot ft) :=
  dt_of (pt_not h.ok) fun σ G H Q ρ d er e k => by
    obtain ⟨x, e1, rfl⟩ := Option.map_eq_some_iff.mp e
    exact ⟨G, ρ, x, er, e1, fun G1 H1 s1 => k G1 H1 s1⟩
def fAndV (fa fb : DEnv → Option D) : DEnv → Option D := fun ρ => (fT fa ρ).bind fun b => if b then fb ρ else some (.bl false)
def fOrV (fa fb : DEnv → Option D) : DEnv → Option D := fun ρ => (fT fa ρ).bind fun b => if b then some (.bl true) else fb ρ
def fNotV (fa : DEnv → Option D) : DEnv → Option D := fun ρ => (fT fa ρ).map fun b => .bl (!b)
theorem de_one {op : BoolOp} (h : DE X own a fa) : DE X own (.BoolOp op [a] pos) fa := ⟨pe_one h.ok⟩
theorem de_and (ha : DE X own a fa) (hb : DE X own (.BoolOp .And (b :: rest) pos) fb) : DE X own (.BoolOp .And (a :: b :: rest) pos) (fAndV fa fb) :=
  de_of (pe_and ha.ok hb.ok) fun σ G H Q ρ d er e k => by
    obtain ⟨x, e1, e⟩ := Option.bind_eq_some_iff.mp e
    refine ⟨G, ρ, .bl x, er, fT_some e1, fun v G1 H1 s1 r1 => ?_⟩
    cases rep_bl r1
    refine ⟨x, rfl, ?_⟩
    cases x with
    | true => exact iteT ⟨G1, ρ, d, er.grow s1, e, fun v G2 H2 s2 r2 => k v G2 H2 (s1.trans s2) r2⟩
    | false => cases e; exact iteF (k _ G1 H1 s1 Rep.bl)
theorem de_or (ha : DE X own a fa) (hb : DE X own (.BoolOp .Or (b :: rest) pos) fb) : DE X own (.BoolOp .Or (a :: b :: rest) pos) (fOrV fa fb) :=
  de_of (pe_or ha.ok hb.ok) fun σ G H Q ρ d er e k => by
    obtain ⟨x, e1, e⟩ := Option.bind_eq_some_iff.mp e
    refine ⟨G, ρ, .bl x, er, fT_some e1, fun v G1 H1 s1 r1 => ?_⟩
    cases rep_bl r1
    refine ⟨x, rfl, ?_⟩
    cases x with
    | false => exact iteF ⟨G1, ρ, d, er.grow s1, e, fun v G2 H2 s2 r2 => k v G2 H2 (s1.trans s2) r2⟩
    | true => cases e; exact iteT (k _ G1 H1 s1 Rep.bl)
theorem de_not (ha : DE X own a fa) : DE X own (.UnaryOp .Not a pos) (fNotV fa) :=
  de_of (pe_not ha.ok) fun σ G H Q ρ d er e k => by
    obtain ⟨x, e1, rfl⟩ := Option.map_eq_some_iff.mp e
    refine ⟨G, ρ, .bl x, er, fT_some e1, fun v G1 H1 s1 r1 => ?_⟩
    cases rep_bl r1
    exact ⟨x, rfl, k _ G1 H1 s1 Rep.bl⟩
def fIf (ft : DEnv → Option Bool) (fa fb : DEnv → Option D) : DEnv → Option D := fun ρ => (ft ρ).bind fun b => if b then fa ρ else fb ρ
theorem de_if (hc : DT X own c ft) (ha : DE X own a fa) (hb : DE X own b fb) : DE X own (.IfExp c a b pos) (fIf ft fa fb) :=
  de_of (pe_ifExp hc.ok ha.ok hb.ok) fun σ G H Q ρ d er e k => by
    obtain ⟨x, e1, e⟩ := Option.bind_eq_some_iff.mp e
    refine ⟨G, ρ, x, er, e1, fun G1 H1 s1 => ?_⟩
    cases x with
    | true => exact iteT ⟨G1, ρ, d, er.grow s1, e, fun v G2 H2 s2 r2 => k v G2 H2 (s1.trans s2) r2⟩
    | false => exact iteF ⟨G1, ρ, d, er.grow s1, e, fun v G2 H2 s2 r2 => k v G2 H2 (s1.trans s2) r2⟩
def f3 (g h : D → D → Option D) (fa fb fc : DEnv → Option D) : DEnv → Option D := fun ρ => (fa ρ).bind fun x => (fb ρ).bind fun y => (g x y).bind fun z => match z with
  | .bl true => (fc ρ).bind fun w => h y w
  | .bl false => some (.bl false)
  | _ => none
def aNil : DEnv → Option (List D) := fun _ => some []
def aCons (f : DEnv → Option D) (fs : DEnv → Option (List D)) : DEnv → Option (List D) := fun ρ => (f ρ).bind fun d => (fs ρ).bind fun ds => some (d :: ds)
theorem da_nil : DA X own [] aNil := da_of pa_nil fun σ G H Q ρ d er e k => by
  cases e
  exact k [] G H (Ext.refl er.sub) RepL.nil
theorem da_cons (h : DE X own e f) (hs : DA X own es fs) (hst : starEach (e :: es) X.env = (false, eval e X.env) :: starEach es X.env := by rfl) : DA X own (e :: es) (aCons f fs) :=
  da_of (pa_cons h.ok hs.ok hst) fun σ G H Q ρ d er e' k => by
    obtain ⟨x, e1, e'⟩ := Option.bind_eq_some_iff.mp e'
    obtain ⟨xs, e2, e'⟩ := Option.bind_eq_some_iff.mp e'
    cases e'
    exact ⟨G, ρ, x, er, e1, fun v G1 H1 s1 r1 => ⟨G1, ρ, xs, er.grow s1, e2, fun vs G2 H2 s2 r2 => k _ G2 H2 (s1.trans s2) (RepL.cons (r1.mono s2.g) r2)⟩⟩
def fTup (fs : DEnv → Option (List D)) : DEnv → Option D := fun ρ => (fs ρ).bind fun ds => if ds.length ≤ 1000 then some (.tup ds) else none
def fLst (fs : DEnv → Option (List D)) : DEnv → Option D := fun ρ => (fs ρ).bind fun ds => if ds.length ≤ 1000 then some (.lst ds) else none
theorem line1000 {n : Nat} (h : n ≤ 1000) : n ≤ sizeLine := Nat.le_of_lt (small1000 h)
theorem de_tup {x1 : Nat} (h : DA X own es fs) : DE X own (.Tuple es x1 pos) (fTup fs) :=
  de_of (pe_tup h.ok) fun σ G H Q ρ d er e k => by
    obtain ⟨ds, e1, e⟩ := Option.bind_eq_some_iff.mp e
    split at e
    · rename_i hl
      cases e
      refine ⟨G, ρ, ds, er, e1, fun vs G1 H1 s1 r1 => ⟨by rw [← repL_length r1]; exact line1000 hl, fun p hp => k _ _ _ (s1.trans (Ext.laid s1.sub hp)) (rep_new_tup (s1.sub.free hp) r1)⟩⟩
    · cases e
theorem de_lst (h : DA X own es fs) : DE X own (.List es pos) (fLst fs) :=
  de_of (pe_lst h.ok) fun σ G H Q ρ d er e k => by
    obtain ⟨ds, e1, e⟩ := Option.bind_eq_some_iff.mp e
    split at e
    · rename_i hl
      cases e
      refine ⟨G, ρ, ds, er, e1, fun vs G1 H1 s1 r1 => ⟨by rw [← repL_length r1]; exact line1000 hl, fun p hp => k _ _ _ (s1.trans (Ext.laid s1.sub hp)) (rep_new_lst (s1.sub.free hp) r1)⟩⟩
    · cases e
def CallD (K : PySem.W.Frag) (r : List V → Hp → VK → Prop) (g : List D → Option D) : Prop := ∀ {vs : List V} {ds : List D} {d : D} {G H : Hp} {Q : VK}, Same G H → RepL K G ds vs → g ds = some d → (∀ v G' H', Ext G H G' H' → Rep K G' d v → Q v H') → r vs H Q
def f1 (g : List D → Option D) (fs : DEnv → Option (List D)) : DEnv → Option D := fun ρ => (fs ρ).bind g
theorem de_callB {id : String} {x : Str} {p : Pos} {r : List V → Hp → VK → Prop} {g : List D → Option D} (hc : CallR X (.builtin id) r) (hd : CallD X.K r g) (hg : Gl X x) (hm : X.mg x = none) (hv : bootBuiltins x = some (.builtin id)) (ha : DA X own (e :: es) fs) (hn : x ≠ "__name__" := by decide)
    (hdb : (x == ("__debug__" : Str)) = false := by decide) (he : starEach (e :: es) X.env = (false, eval e X.env) :: starEach es X.env := by rfl) (hpl : (backTo pos (starEach es X.env)).any (·.1) = false := by rfl) : DE X own (.Call (.Name x p) (e :: es) [] pos) (f1 g fs) :=
  de_of (pe_callB hc hg hm hv ha.ok hn hdb he hpl) fun σ G H Q ρ d er e' k => by
    obtain ⟨ds, e1, e'⟩ := Option.bind_eq_some_iff.mp e'
    exact ⟨G, ρ, ds, er, e1, fun vs G1 H1 s1 r1 => hd s1.sub r1 e' fun v G2 H2 s2 r2 => k v G2 H2 (s1.trans s2) r2⟩
theorem de_callTy {T : String} {x : Str} {p : Pos} {r : List V → Hp → VK → Prop} {g : List D → Option D} (hc : CallR X (.type T) r) (hd : CallD X.K r g) (hg : Gl X x) (hm : X.mg x = none) (hv : bootBuiltins x = some (.type T)) (ha : DA X own (e :: es) fs) (hn : x ≠ "__name__" := by decide)
    (hdb : (x == ("__debug__" : Str)) = false := by decide) (he : starEach (e :: es) X.env = (false, eval e X.env) :: starEach es X.env := by rfl) (hpl : (backTo pos (starEach es X.env)).any (·.1) = false := by rfl) : DE X own (.Call (.Name x p) (e :: es) [] pos) (f1 g fs) :=
  de_of (pe_callTy hc hg hm hv ha.ok hn hdb he hpl) fun σ G H Q ρ d er e' k => by
    obtain ⟨ds, e1, e'⟩ := Option.bind_eq_some_iff.mp e'
    exact ⟨G, ρ, ds, er, e1, fun vs G1 H1 s1 r1 => hd s1.sub r1 e' fun v G2 H2 s2 r2 => k v G2 H2 (s1.trans s2) r2⟩
def spF (K : PySem.W.Frag) (n : Nat) (g : List D → Option D) : Sp := fun vs H Q _ => vs.length = n ∧ ∃ G ds d, Same G H ∧ RepL K G ds vs ∧ g ds = some d ∧ ∀ v G' H', Ext G H G' H' → Rep K G' d v → Q v H'
theorem de_call {k : Nat} {fad : Addr} {fd : FuncData} {ps : List Str} {g : List D → Option D} {x : Str} {p : Pos} (F : FnOk X.prog X.w X.K X.mg X.base CX0 k fad fd ps (spF X.K ps.length g)) (hr : Room k X.A) (hg : Gl X x) (hm : X.mg x = some (.ref fad)) (hk : PySem.W.keepIn X.K (.ref fad) = true)
    (hb : Binds X.K fd ps []) (ha : DA X own (e :: es) fs) (hn : (e :: es).length = ps.length := by rfl) (hlen : ∀ ρ ds, fs ρ = some ds → ds.length = ps.length)
    (hdb : (x == ("__debug__" : Str)) = false := by decide) (he : starEach (e :: es) X.env = (false, eval e X.env) :: starEach es X.env := by rfl) (hpl : (backTo pos (starEach es X.env)).any (·.1) = false := by rfl) :
    DE X own (.Call (.Name x p) (e :: es) [] pos) (f1 g fs) :=
  de_of (pe_call F hr hg hm hk hb .nil pass0 ha.ok hdb he hpl) fun σ G H Q ρ d er e' k => by
    obtain ⟨ds, e1, e'⟩ := Option.bind_eq_some_iff.mp e'
    refine ⟨G, ρ, ds, er, e1, fun vs G1 H1 s1 r1 => ?_⟩
    show spF X.K ps.length g (vs ++ []) H1 Q E0
    rw [List.append_nil]
    exact ⟨by rw [← repL_length r1]; exact hlen ρ ds e1, G1, ds, d, s1.sub, r1, e', fun v G2 H2 s2 r2 => k v G2 H2 (s1.trans s2) r2⟩
end
theorem len_nil {ρ : DEnv} {ds : List D} (h : aNil ρ = some ds) : ds.length = 0 := by cases h; rfl
theorem len_cons {f : DEnv → Option D} {fs : DEnv → Option (List D)} {n : Nat} (hf : ∀ ρ ds, fs ρ = some ds → ds.length = n) : ∀ (ρ : DEnv) (ds : List D), aCons f fs ρ = some ds → ds.length = n + 1 := fun ρ ds e => by
  obtain ⟨x, e1, e⟩ := Option.bind_eq_some_iff.mp e
  obtain ⟨xs, e2, e⟩ := Option.bind_eq_some_iff.mp e
  cases e
  rw [List.length_cons, hf ρ xs e2]
end DL
set_option maxRecDepth 100000
set_option maxHeartbeats 4000000
namespace DL
open PySem PySem.Spec PyProof.Rows L2

theorem plainL_obj {h : Heap} {a : Addr} {its : Array Value} (p : PlainL h a its) : ∃ n sl, h.get? a = some { cls := .type "list", dict := none, data := .seq its n, slots := sl } := by
  obtain ⟨⟨cls, dd, data, sl⟩, n, e, h1, h2, h3⟩ := p
  simp only at h1 h2 h3
  subst h1 h2 h3
  exact ⟨n, sl, e⟩
section
variable {X : Cx}
def rCatL (K : PySem.W.Frag) : R2 := fun x y H Q => ∃ l b xs zs, x = .ref l ∧ y = .ref b ∧ SqL K H l xs ∧ SqL K H b zs ∧ xs.length + zs.length ≤ sizeLine ∧ ∀ p, H p = none → Q (.ref p) (upd H p (.lst (xs ++ zs)))
theorem op_catL : OpR X (binaryOp .Add) (rCatL X.K) := by
  intro pins s σ H x y v u Q I rx ry h
  obtain ⟨l, b, xs, zs, rfl, rfl, hH, hB, hz, q⟩ := h
  cases rx
  cases ry
  obtain ⟨its, r, pl, z⟩ := I.list hH
  obtain ⟨its2, r2, pl2, z2⟩ := I.list hB
  obtain ⟨n, sl, e⟩ := plainL_obj pl
  obtain ⟨n2, sl2, e2⟩ := plainL_obj pl2
  have h1 := r.length
  have h2 := r2.length
  refine concat_meets ⟨_, e, rfl⟩ ⟨_, e2, rfl⟩ PySem.noFill_list_add PySem.seq_list_add PySem.F.slot_list_add PySem.F.entry_list_add (PySem.F.args_list_add_2 _ _)
    (list_addW l b its.toArray its2.toArray n n2 none none sl sl2 (by rw [List.size_toArray, List.size_toArray]; omega)) ⟨e, e2, ?_⟩
  have ea : its.toArray ++ its2.toArray = (its ++ its2).toArray := by simp
  rw [ea]
  exact ⟨.ref _, _, I.lnew (t' := s.toks) (r.append r2) (by rw [List.length_append]; omega), rfl, q _ I.fresh⟩
def rCatT0 (K : PySem.W.Frag) : R2 := fun x y H Q => ∃ a b ys, x = .ref a ∧ y = .ref b ∧ SqT K H a [] ∧ SqT K H b ys ∧ Q (.ref b) H
theorem op_catT0 : OpR X (binaryOp .Add) (rCatT0 X.K) := by
  intro pins s σ H x y v u Q I rx ry h
  obtain ⟨a, b, ys, rfl, rfl, ha, hb, q⟩ := h
  cases rx
  cases ry
  obtain ⟨its, r1, p1, _⟩ := I.tuple ha
  obtain ⟨its2, r2, p2, _⟩ := I.tuple hb
  obtain ⟨⟨cls, dd, data, sl⟩, ho, hc, n, hd⟩ := id p1
  obtain ⟨⟨cls2, dd2, data2, sl2⟩, ho2, hc2, n2, hd2⟩ := id p2
  simp only at hc hd hc2 hd2
  subst hc hd hc2 hd2
  have e0 : its = [] := r1.nil_iff.mpr rfl
  exact concat_meets ⟨_, ho, rfl⟩ ⟨_, ho2, rfl⟩ noFill_tuple_add seq_tuple_add PySem.F.slot_tuple_add PySem.F.entry_tuple_add (PySem.F.args_tuple_add_2 _ _)
    (tuple_addW0 a b its.toArray its2.toArray n n2 dd dd2 sl sl2 (by simp [e0])) ⟨ho, ho2, ⟨.ref b, H, I, rfl, q⟩⟩
abbrev big : Nat := 100000
theorem big_line {n : Nat} (h : n ≤ big) : n ≤ sizeLine := Nat.le_trans h (by rw [sizeLine_eq]; decide)
def addD : D → D → Option D
  | .int i, .int j => some (.int (i + j))
  | .str x, .str y => if x.length + y.length ≤ big then some (.str (x ++ y)) else none
  | .tup xs, .tup ys => if xs.length + ys.length ≤ big then some (.tup (xs ++ ys)) else none
  | .lst xs, .lst ys => if xs.length + ys.length ≤ big then some (.lst (xs ++ ys)) else none
  | _, _ => none
def rAddAll (K : PySem.W.Frag) : R2 := fun x y H Q => rI0 (fun i j => .int (i + j)) x y H Q ∨ ((∃ i j, x = .str i ∧ y = .str j ∧ i.length + j.length ≤ sizeLine ∧ Q (.str (i ++ j)) H) ∨ (rCatT K x y H Q ∨ (rCatT0 K x y H Q ∨ rCatL K x y H Q)))
theorem op_addAll : OpR X (binaryOp .Add) (rAddAll X.K) := op_add.or (op_add_str.or (op_catT.or (op_catT0.or op_catL)))
theorem od_add {K : PySem.W.Frag} : OpD K (rAddAll K) addD := by
  intro x y dx dy d G H Q sub rx ry e k
  unfold addD at e
  split at e
  · cases rep_int rx; cases rep_int ry; cases e
    exact .inl ⟨_, _, rfl, rfl, k _ G H (Ext.refl sub) Rep.int⟩
  · cases rep_str rx; cases rep_str ry
    split at e
    · rename_i hl
      cases e
      exact .inr (.inl ⟨_, _, rfl, rfl, big_line hl, k _ G H (Ext.refl sub) Rep.str⟩)
    · cases e
  · obtain ⟨a, vs, rfl, qa, ra⟩ := rep_tup rx
    obtain ⟨b, ws, rfl, qb, rb⟩ := rep_tup ry
    split at e
    · rename_i hl
      cases e
      have l1 := repL_length ra
      have l2 := repL_length rb
      by_cases hv : vs = []
      · subst hv
        refine .inr (.inr (.inr (.inl ⟨a, b, ws, rfl, rfl, same_tup sub qa, same_tup sub qb, k _ G H (Ext.refl sub) ?_⟩)))
        have : (_ : List D) = [] := List.length_eq_zero_iff.mp l1
        rw [this, List.nil_append]
        exact Rep.tup qb rb
      · refine .inr (.inr (.inl ⟨a, b, vs, ws, rfl, rfl, same_tup sub qa, same_tup sub qb, hv, by rw [← l1, ← l2]; exact big_line hl, fun hw => ?_, fun hw p hp => ?_⟩))
        · subst hw
          have : (_ : List D) = [] := List.length_eq_zero_iff.mp l2
          refine k _ G H (Ext.refl sub) ?_
          rw [this, List.append_nil]
          exact Rep.tup qa ra
        · exact k _ _ _ (Ext.laid sub hp) (rep_new_tup (sub.free hp) (repL_append ra rb))
    · cases e
  · obtain ⟨a, vs, rfl, qa, ra⟩ := rep_lst rx
    obtain ⟨b, ws, rfl, qb, rb⟩ := rep_lst ry
    split at e
    · rename_i hl
      cases e
      exact .inr (.inr (.inr (.inr ⟨a, b, vs, ws, rfl, rfl, sub.seq qa, sub.seq qb, by rw [← repL_length ra, ← repL_length rb]; exact big_line hl, fun p hp => k _ _ _ (Ext.laid sub hp) (rep_new_lst (sub.free hp) (repL_append ra rb))⟩)))
    · cases e
  · cases e
def intD (c : Int → Int → Bool) (g : Int → Int → D) : D → D → Option D
  | .int i, .int j => if c i j = true then some (g i j) else none
  | _, _ => none
theorem od_int {K : PySem.W.Frag} {C : Int → Int → Prop} {c : Int → Int → Bool} {g : Int → Int → D} {gv : Int → Int → V} (hc : ∀ i j, c i j = true → C i j) (hg : ∀ i j H, Rep K H (g i j) (gv i j)) : OpD K (rI C gv) (intD c g) := by
  intro x y dx dy d G H Q sub rx ry e k
  unfold intD at e
  split at e
  · cases rep_int rx; cases rep_int ry
    split at e
    · rename_i h
      cases e
      exact ⟨_, _, rfl, rfl, hc _ _ h, k _ G H (Ext.refl sub) (hg _ _ G)⟩
    · cases e
  · cases e
def intD0 (g : Int → Int → D) : D → D → Option D
  | .int i, .int j => some (g i j)
  | _, _ => none
theorem od_int0 {K : PySem.W.Frag} {g : Int → Int → D} {gv : Int → Int → V} (hg : ∀ i j H, Rep K H (g i j) (gv i j)) : OpD K (rI0 gv) (intD0 g) := by
  intro x y dx dy d G H Q sub rx ry e k
  unfold intD0 at e
  split at e
  · cases rep_int rx; cases rep_int ry; cases e
    exact ⟨_, _, rfl, rfl, k _ G H (Ext.refl sub) (hg _ _ G)⟩
  · cases e
def subD : D → D → Option D := intD0 fun i j => .int (i - j)
theorem od_sub {K : PySem.W.Frag} : OpD K (rI0 fun i j => .int (i - j)) subD := od_int0 fun _ _ _ => Rep.int
def mulOk (i j : Int) : Bool := (decide (-(2 ^ 64) < i) && decide (i < 2 ^ 64)) || (decide (-(2 ^ 64) < j) && decide (j < 2 ^ 64))
theorem od_mul {K : PySem.W.Frag} : OpD K (rI CMul fun i j => .int (i * j)) (intD mulOk fun i j => .int (i * j)) := od_int (fun i j h => by
  unfold mulOk at h
  simp only [Bool.or_eq_true, Bool.and_eq_true, decide_eq_true_eq] at h
  exact h) fun _ _ _ => Rep.int
theorem od_mod {K : PySem.W.Frag} : OpD K (rI (fun _ j => 0 < j) fun i j => .int (i % j)) (intD (fun _ j => decide (0 < j)) fun i j => .int (i % j)) := od_int (fun i j h => by simpa using h) fun _ _ _ => Rep.int
theorem od_fdiv {K : PySem.W.Frag} : OpD K (rI CDiv fun i j => .int (i / j)) (intD (fun _ j => decide (0 < j) && decide (j < 1073741824)) fun i j => .int (i / j)) := od_int (fun i j h => by
  simp only [Bool.and_eq_true, decide_eq_true_eq] at h
  exact h) fun _ _ _ => Rep.int
theorem od_pow {K : PySem.W.Frag} : OpD K (rI CPow fun i j => .int (i ^ j.toNat)) (intD (fun i j => decide (0 ≤ j) && decide (j ≤ 1000000) && decide (i.natAbs < 2 ^ 64)) fun i j => .int (i ^ j.toNat)) := od_int (fun i j h => by
  simp only [Bool.and_eq_true, decide_eq_true_eq] at h
  exact ⟨h.1.1, h.1.2, h.2⟩) fun _ _ _ => Rep.int
theorem od_lt {K : PySem.W.Frag} : OpD K (rI0 fun i j => .bl (decide (i < j))) (intD0 fun i j => .bl (decide (i < j))) := od_int0 fun _ _ _ => Rep.bl
theorem od_ge {K : PySem.W.Frag} : OpD K (rI0 fun i j => .bl (decide (j ≤ i))) (intD0 fun i j => .bl (decide (j ≤ i))) := od_int0 fun _ _ _ => Rep.bl
def strLe (x y : Str) : Bool := !decide (y.cps.toList < x.cps.toList)
theorem op_le_str : OpR X (compareOp .LtE) (fun x y H Q => ∃ i j, x = .str i ∧ y = .str j ∧ Q (.bl (strLe i j)) H) := by
  intro pins s σ H x y v u Q I rx ry h
  obtain ⟨i, j, rfl, rfl, q⟩ := h
  obtain ⟨t, rfl⟩ := rx
  obtain ⟨t', rfl⟩ := ry
  exact PySem.P.le_str (fin_bl I q rfl)
def isNon : D → Bool
  | .non => true
  | _ => false
def isNonD : D → D → Option D
  | x, .non => some (.bl (isNon x))
  | _, _ => none
theorem rep_isnon {K : PySem.W.Frag} {H : Hp} {d : D} {x : V} (r : Rep K H d x) : decide (x = V.non) = isNon d := by
  cases d with
  | non => cases rep_non r; rfl
  | bl b => cases rep_bl r; rfl
  | int b => cases rep_int r; rfl
  | str b => cases rep_str r; rfl
  | tup b => obtain ⟨a, vs, rfl, _⟩ := rep_tup r; rfl
  | lst b => obtain ⟨a, vs, rfl, _⟩ := rep_lst r; rfl
  | fn b => cases rep_fn r; rfl
  | dk b => obtain ⟨a, rfl, _⟩ := rep_dk r; rfl
theorem od_isN {K : PySem.W.Frag} : OpD K (fun x y H Q => y = .non ∧ Q (.bl (decide (x = .non))) H) isNonD := by
  intro x y dx dy d G H Q sub rx ry e k
  unfold isNonD at e
  split at e
  · cases rep_non ry; cases e
    refine ⟨rfl, ?_⟩
    rw [rep_isnon rx]
    exact k _ G H (Ext.refl sub) Rep.bl
  · cases e
def notNonD : D → D → Option D
  | x, .non => some (.bl (!isNon x))
  | _, _ => none
theorem od_notN {K : PySem.W.Frag} : OpD K (fun x y H Q => y = .non ∧ Q (.bl (!decide (x = .non))) H) notNonD := by
  intro x y dx dy d G H Q sub rx ry e k
  unfold notNonD at e
  split at e
  · cases rep_non ry; cases e
    refine ⟨rfl, ?_⟩
    rw [rep_isnon rx]
    exact k _ G H (Ext.refl sub) Rep.bl
  · cases e
def ixD : D → D → Option D
  | .tup xs, .int i => atI xs i
  | .lst xs, .int i => atI xs i
  | .str x, .int i => if x.length ≤ big then (atI x.cps.toList i).map fun c => .str ⟨#[c]⟩ else none
  | _, _ => none
theorem repL_atI {K : PySem.W.Frag} {H : Hp} {ds : List D} {vs : List V} {i : Int} {d : D} (r : RepL K H ds vs) (h : atI ds i = some d) : ∃ v, atI vs i = some v ∧ Rep K H d v := by
  unfold atI at h ⊢
  obtain ⟨j, h1, h2⟩ := Option.bind_eq_some_iff.mp h
  obtain ⟨v, h3, h4⟩ := repL_get r h2
  exact ⟨v, Option.bind_eq_some_iff.mpr ⟨j, by rw [← repL_length r]; exact h1, h3⟩, h4⟩
theorem od_ix {K : PySem.W.Frag} : OpD K (rIx K) ixD := by
  intro x y dx dy d G H Q sub rx ry e k
  unfold ixD at e
  split at e
  · obtain ⟨a, vs, rfl, qa, ra⟩ := rep_tup rx
    cases rep_int ry
    obtain ⟨v, h1, h2⟩ := repL_atI ra e
    exact .inr (.inl ⟨a, vs, _, v, rfl, rfl, same_tup sub qa, h1, k v G H (Ext.refl sub) h2⟩)
  · obtain ⟨a, vs, rfl, qa, ra⟩ := rep_lst rx
    cases rep_int ry
    obtain ⟨v, h1, h2⟩ := repL_atI ra e
    exact .inl ⟨a, vs, _, v, rfl, rfl, sub.seq qa, h1, k v G H (Ext.refl sub) h2⟩
  · cases rep_str rx
    cases rep_int ry
    split at e
    · rename_i hl
      obtain ⟨c, h1, rfl⟩ := Option.map_eq_some_iff.mp e
      exact .inr (.inr ⟨_, _, c, rfl, rfl, big_line hl, h1, k _ G H (Ext.refl sub) Rep.str⟩)
    · cases e
  · cases e
def cutL {α : Type} (xs : List α) (lo hi : Option Int) : List α := (xs.drop (HT.sIx xs.length 0 lo)).take (HT.sIx xs.length xs.length hi - HT.sIx xs.length 0 lo)
theorem repL_cut {K : PySem.W.Frag} {H : Hp} {ds : List D} {vs : List V} (r : RepL K H ds vs) (lo hi : Option Int) : RepL K H (cutL ds lo hi) (cutV vs lo hi) := by
  unfold cutL cutV
  rw [repL_length r]
  exact repL_take _ (repL_drop _ r)
end
end DL
set_option maxRecDepth 100000
set_option maxHeartbeats 4000000
namespace DL
open PySem PySem.Spec PyProof.Rows L2
section
variable {X : Cx} {own : List Nat} {e a b c : Expr} {es : List Expr} {pos p2 : Pos} {f fa fb fc : DEnv → Option D} {fs : DEnv → Option (List D)} {ft fu : DEnv → Option Bool} {ol oh : DEnv → Option (Option Int)}
def toD (K : PySem.W.Frag) (own : List Nat) (o : DEnv → Option (Option Int)) : TO := fun σ H Q => ∃ G ρ i, OR K own G H σ ρ ∧ o ρ = some i ∧ ∀ G' H', Ext G H G' H' → Q i H'
def oNone : DEnv → Option (Option Int) := fun _ => some none
def oSome (f : DEnv → Option D) : DEnv → Option (Option Int) := fun ρ => (f ρ).bind fun d => match d with | .int i => some (some i) | _ => none
theorem do_none : PO X none (toD X.K own oNone) := fun pins s σ H Q I ⟨G, ρ, i, er, e, k⟩ => by
  cases e
  exact po_none pins s σ H Q I (k G H (Ext.refl er.sub))
theorem do_some (h : DE X own e f) : PO X (some e) (toD X.K own (oSome f)) := fun pins s σ H Q I ⟨G, ρ, i, er, e', k⟩ => by
  obtain ⟨d, e1, e2⟩ := Option.bind_eq_some_iff.mp e'
  refine po_some h.ok pins s σ H Q I ⟨G, ρ, d, er, e1, fun v G' H' s' r' => ?_⟩
  cases d <;> first
    | cases e2
    | skip
  cases rep_int r'
  exact ⟨_, rfl, k G' H' s'⟩
def sliceD : D → Option Int → Option Int → Option D
  | .tup xs, lo, hi => if HT.sIx xs.length 0 lo = 0 ∧ HT.sIx xs.length xs.length hi = xs.length then none else some (.tup (cutL xs lo hi))
  | .lst xs, lo, hi => some (.lst (cutL xs lo hi))
  | _, _, _ => none
def fSl (f : DEnv → Option D) (ol oh : DEnv → Option (Option Int)) : DEnv → Option D := fun ρ => (f ρ).bind fun d => (ol ρ).bind fun l => (oh ρ).bind fun h => sliceD d l h
theorem de_slice {lo hi : Option Expr} (ha : DE X own a fa) (hl : PO X lo (toD X.K own ol)) (hh : PO X hi (toD X.K own oh)) : DE X own (.Subscript a (.Slice lo hi none p2) pos) (fSl fa ol oh) :=
  de_of (pe_slice (SlR.or sl_tup sl_list) ha.ok hl hh) fun σ G H Q ρ d er e k => by
    obtain ⟨x, e1, e⟩ := Option.bind_eq_some_iff.mp e
    obtain ⟨l, e2, e⟩ := Option.bind_eq_some_iff.mp e
    obtain ⟨h, e3, e⟩ := Option.bind_eq_some_iff.mp e
    refine ⟨G, ρ, x, er, e1, fun v G1 H1 s1 r1 => ⟨G1, ρ, l, er.grow s1, e2, fun G2 H2 s2 => ⟨G2, ρ, h, er.grow (s1.trans s2), e3, fun G3 H3 s3 => ?_⟩⟩⟩
    have r3 : Rep X.K G3 x v := (r1.mono s2.g).mono s3.g
    have s4 : Ext G H G3 H3 := s1.trans (s2.trans s3)
    have sub := s4.sub
    unfold sliceD at e
    split at e
    · split at e
      · cases e
      · rename_i hw
        cases e
        obtain ⟨p, vs, rfl, q, rr⟩ := rep_tup r3
        refine .inl ⟨p, vs, rfl, same_tup sub q, ?_, fun p hp => k _ _ _ (s4.trans (Ext.laid sub hp)) (rep_new_tup (sub.free hp) (repL_cut rr l h))⟩
        rw [← repL_length rr]
        exact hw
    · cases e
      obtain ⟨p, vs, rfl, q, rr⟩ := rep_lst r3
      exact .inr ⟨p, vs, rfl, sub.seq q, fun p hp => k _ _ _ (s4.trans (Ext.laid sub hp)) (rep_new_lst (sub.free hp) (repL_cut rr l h))⟩
    · cases e
def tyD : D → Value
  | .non => .type "NoneType"
  | .bl _ => .type "bool"
  | .int _ => .type "int"
  | .str _ => .type "str"
  | .tup _ => .type "tuple"
  | .lst _ => .type "list"
  | .fn _ => .none
  | .dk _ => .none
def rIsi (K : PySem.W.Frag) (T : String) : List V → Hp → VK → Prop := fun xs H Q => ∃ x d b, xs = [x, .ty T] ∧ Rep K H d x ∧ PySem.W.kitOne K (tyD d) (.type T) = some b ∧ (∀ a, d ≠ .fn a) ∧ (∀ a, d ≠ .dk a) ∧ Q (.bl b) H
theorem call_isi {T : String} : CallR X (.builtin "isinstance") (rIsi X.K T) := by
  intro pins s σ H xs us Q I r h
  obtain ⟨x, d, b, rfl, rx, e, hf, hf2, q⟩ := h
  obtain ⟨u, w', rfl, r1, r2⟩ := vals2 r
  cases r2
  have fin : ∀ tk, EP X pins σ Q (.bool b) { s with toks := tk } := fun tk => ⟨.bl b, H, I.tok tk, rfl, q⟩
  cases d with
  | non => cases rep_non rx; cases r1; exact PySem.W.kia_one PySem.W.kitx_none I.kIn True.intro e (fun z => nomatch z) fin
  | bl y => cases rep_bl rx; cases r1; exact PySem.W.kia_one PySem.W.kitx_bool I.kIn True.intro e (fun z => nomatch z) fin
  | int y => cases rep_int rx; obtain ⟨t, rfl⟩ := r1; exact PySem.W.kia_one PySem.W.kitx_int I.kIn True.intro e (fun z => nomatch z) fin
  | str y => cases rep_str rx; obtain ⟨t, rfl⟩ := r1; exact PySem.W.kia_one PySem.W.kitx_str I.kIn True.intro e (fun z => nomatch z) fin
  | tup ys =>
    obtain ⟨a, vs, rfl, qa, ra⟩ := rep_tup rx
    cases r1
    obtain ⟨its, _, ⟨o, h1, h2, _⟩, _⟩ := I.tuple qa
    exact PySem.W.kia_one PySem.W.kitx_tuple I.kIn ⟨o, h1, h2⟩ e (fun z => nomatch z) fin
  | lst ys =>
    obtain ⟨a, vs, rfl, qa, ra⟩ := rep_lst rx
    cases r1
    obtain ⟨its, _, pl, _⟩ := I.list qa
    obtain ⟨o, n, h1, h2, _⟩ := pl
    exact PySem.W.kia_one PySem.W.kitx_list I.kIn ⟨o, h1, h2⟩ e (fun z => nomatch z) fin
  | fn a => exact absurd rfl (hf a)
  | dk a => exact absurd rfl (hf2 a)
def isiD (T : String) : D → Option Bool
  | .non => some (T == "NoneType")
  | .bl _ => some (T == "bool" || T == "int")
  | .int _ => some (T == "int")
  | .str _ => some (T == "str")
  | .tup _ => some (T == "tuple")
  | .lst _ => some (T == "list")
  | .fn _ => none
  | .dk _ => none
structure IsiT (K : PySem.W.Frag) (T : String) : Prop where
  ok : ∀ d b, isiD T d = some b → PySem.W.kitOne K (tyD d) (.type T) = some b
theorem kone_non_int : PySem.W.kitOne [] (.type "NoneType") (.type "int") = some ("int" == "NoneType") := by decide +kernel
theorem kone_bl_int : PySem.W.kitOne [] (.type "bool") (.type "int") = some ("int" == "bool" || "int" == "int") := by decide +kernel
theorem kone_int_int : PySem.W.kitOne [] (.type "int") (.type "int") = some ("int" == "int") := by decide +kernel
theorem kone_str_int : PySem.W.kitOne [] (.type "str") (.type "int") = some ("int" == "str") := by decide +kernel
theorem kone_tup_int : PySem.W.kitOne [] (.type "tuple") (.type "int") = some ("int" == "tuple") := by decide +kernel
theorem kone_lst_int : PySem.W.kitOne [] (.type "list") (.type "int") = some ("int" == "list") := by decide +kernel
theorem isi_int {K : PySem.W.Frag} : IsiT K "int" := ⟨fun d b h => match d, b, h with
  | .non, b, h => by cases h; exact kone_non_int
  | .bl _, b, h => by cases h; exact kone_bl_int
  | .int _, b, h => by cases h; exact kone_int_int
  | .str _, b, h => by cases h; exact kone_str_int
  | .tup _, b, h => by cases h; exact kone_tup_int
  | .lst _, b, h => by cases h; exact kone_lst_int
  | .fn _, b, h => by cases h
  | .dk _, b, h => by cases h⟩
theorem kone_non_bool : PySem.W.kitOne [] (.type "NoneType") (.type "bool") = some ("bool" == "NoneType") := by decide +kernel
theorem kone_bl_bool : PySem.W.kitOne [] (.type "bool") (.type "bool") = some ("bool" == "bool" || "bool" == "int") := by decide +kernel
theorem kone_int_bool : PySem.W.kitOne [] (.type "int") (.type "bool") = some ("bool" == "int") := by decide +kernel
theorem kone_str_bool : PySem.W.kitOne [] (.type "str") (.type "bool") = some ("bool" == "str") := by decide +kernel
theorem kone_tup_bool : PySem.W.kitOne [] (.type "tuple") (.type "bool") = some ("bool" == "tuple") := by decide +kernel
theorem kone_lst_bool : PySem.W.kitOne [] (.type "list") (.type "bool") = some ("bool" == "list") := by decide +kernel
theorem isi_bool {K : PySem.W.Frag} : IsiT K "bool" := ⟨fun d b h => match d, b, h with
  | .non, b, h => by cases h; exact kone_non_bool
  | .bl _, b, h => by cases h; exact kone_bl_bool
  | .int _, b, h => by cases h; exact kone_int_bool
  | .str _, b, h => by cases h; exact kone_str_bool
  | .tup _, b, h => by cases h; exact kone_tup_bool
  | .lst _, b, h => by cases h; exact kone_lst_bool
  | .fn _, b, h => by cases h
  | .dk _, b, h => by cases h⟩
theorem kone_non_str : PySem.W.kitOne [] (.type "NoneType") (.type "str") = some ("str" == "NoneType") := by decide +kernel
theorem kone_bl_str : PySem.W.kitOne [] (.type "bool") (.type "str") = some ("str" == "bool" || "str" == "int") := by decide +kernel
theorem kone_int_str : PySem.W.kitOne [] (.type "int") (.type "str") = some ("str" == "int") := by decide +kernel
theorem kone_str_str : PySem.W.kitOne [] (.type "str") (.type "str") = some ("str" == "str") := by decide +kernel
theorem kone_tup_str : PySem.W.kitOne [] (.type "tuple") (.type "str") = some ("str" == "tuple") := by decide +kernel
theorem kone_lst_str : PySem.W.kitOne [] (.type "list") (.type "str") = some ("str" == "list") := by decide +kernel
theorem isi_str {K : PySem.W.Frag} : IsiT K "str" := ⟨fun d b h => match d, b, h with
  | .non, b, h => by cases h; exact kone_non_str
  | .bl _, b, h => by cases h; exact kone_bl_str
  | .int _, b, h => by cases h; exact kone_int_str
  | .str _, b, h => by cases h; exact kone_str_str
  | .tup _, b, h => by cases h; exact kone_tup_str
  | .lst _, b, h => by cases h; exact kone_lst_str
  | .fn _, b, h => by cases h
  | .dk _, b, h => by cases h⟩
theorem kone_non_tuple : PySem.W.kitOne [] (.type "NoneType") (.type "tuple") = some ("tuple" == "NoneType") := by decide +kernel
theorem kone_bl_tuple : PySem.W.kitOne [] (.type "bool") (.type "tuple") = some ("tuple" == "bool" || "tuple" == "int") := by decide +kernel
theorem kone_int_tuple : PySem.W.kitOne [] (.type "int") (.type "tuple") = some ("tuple" == "int") := by decide +kernel
theorem kone_str_tuple : PySem.W.kitOne [] (.type "str") (.type "tuple") = some ("tuple" == "str") := by decide +kernel
theorem kone_tup_tuple : PySem.W.kitOne [] (.type "tuple") (.type "tuple") = some ("tuple" == "tuple") := by decide +kernel
theorem kone_lst_tuple : PySem.W.kitOne [] (.type "list") (.type "tuple") = some ("tuple" == "list") := by decide +kernel
theorem isi_tuple {K : PySem.W.Frag} : IsiT K "tuple" := ⟨fun d b h => match d, b, h with
  | .non, b, h => by cases h; exact kone_non_tuple
  | .bl _, b, h => by cases h; exact kone_bl_tuple
  | .int _, b, h => by cases h; exact kone_int_tuple
  | .str _, b, h => by cases h; exact kone_str_tuple
  | .tup _, b, h => by cases h; exact kone_tup_tuple
  | .lst _, b, h => by cases h; exact kone_lst_tuple
  | .fn _, b, h => by cases h
  | .dk _, b, h => by cases h⟩
def fIsi (T : String) (f : DEnv → Option D) : DEnv → Option D := fun ρ => (f ρ).bind fun d => (isiD T d).map D.bl
theorem de_isi {T : String} {x : Str} {p : Pos} (ht : IsiT X.K T) (hg : Gl X "isinstance") (hm : X.mg "isinstance" = none) (hg2 : Gl X x) (hm2 : X.mg x = none) (hv : bootBuiltins "isinstance" = some (.builtin "isinstance")) (hv2 : bootBuiltins x = some (.type T)) (ha : DE X own a fa)
    (hn2 : x ≠ "__name__" := by decide) (hd2 : (x == ("__debug__" : Str)) = false := by decide)
    (he : starEach [a, .Name x p2] X.env = (false, eval a X.env) :: starEach [.Name x p2] X.env := by rfl) (he2 : starEach [.Name x p2] X.env = (false, eval (.Name x p2) X.env) :: starEach [] X.env := by rfl)
    (hpl : (backTo pos (starEach [.Name x p2] X.env)).any (·.1) = false := by rfl) : DE X own (.Call (.Name "isinstance" p) [a, .Name x p2] [] pos) (fIsi T fa) :=
  de_of (pe_callB (r := rIsi X.K T) call_isi hg hm hv (pa_cons ha.ok (pa_cons (pe_bltn (v := V.ty T) hg2 hm2 hv2 rfl hn2 hd2) pa_nil he2) he) (by decide) (by decide) he hpl) fun σ G H Q ρ d er e k => by
    obtain ⟨x, e1, e⟩ := Option.bind_eq_some_iff.mp e
    obtain ⟨b, e2, rfl⟩ := Option.map_eq_some_iff.mp e
    exact ⟨G, ρ, x, er, e1, fun v G1 H1 s1 r1 => ⟨v, x, b, rfl, r1.mono s1.sub, ht.ok x b e2, fun a z => (by subst z; cases e2), fun a z => (by subst z; cases e2), k _ G1 H1 s1 Rep.bl⟩⟩
theorem repL_one {K : PySem.W.Frag} {H : Hp} {d : D} {vs : List V} (h : RepL K H [d] vs) : ∃ v, vs = [v] ∧ Rep K H d v := by
  obtain ⟨v, r, rfl, h1, h2⟩ := repL_cons h
  cases repL_nil h2
  exact ⟨v, rfl, h1⟩
def lenD : List D → Option D
  | [.tup xs] => some (.int xs.length)
  | [.lst xs] => some (.int xs.length)
  | [.str x] => if x.length ≤ big then some (.int x.length) else none
  | _ => none
theorem cd_len {K : PySem.W.Frag} : CallD K (fun xs H Q => ∃ x n, xs = [x] ∧ LenV K x H n ∧ Q (.int n) H) lenD := by
  intro vs ds d G H Q sub r e k
  unfold lenD at e
  split at e
  · obtain ⟨v, rfl, rv⟩ := repL_one r
    obtain ⟨a, ws, rfl, q, rr⟩ := rep_tup rv
    cases e
    exact ⟨_, _, rfl, .inr ⟨ws, same_tup sub q, repL_length rr⟩, k _ G H (Ext.refl sub) Rep.int⟩
  · obtain ⟨v, rfl, rv⟩ := repL_one r
    obtain ⟨a, ws, rfl, q, rr⟩ := rep_lst rv
    cases e
    exact ⟨_, _, rfl, .inl ⟨ws, sub.seq q, repL_length rr⟩, k _ G H (Ext.refl sub) Rep.int⟩
  · obtain ⟨v, rfl, rv⟩ := repL_one r
    cases rep_str rv
    split at e
    · rename_i hl
      cases e
      exact ⟨_, _, rfl, ⟨big_line hl, rfl⟩, k _ G H (Ext.refl sub) Rep.int⟩
    · cases e
  · cases e
def absD : List D → Option D
  | [.int i] => some (.int (if i < 0 then -i else i))
  | _ => none
theorem cd_abs {K : PySem.W.Frag} : CallD K (fun xs H Q => ∃ i, xs = [.int i] ∧ Q (.int (if i < 0 then -i else i)) H) absD := by
  intro vs ds d G H Q sub r e k
  unfold absD at e
  split at e
  · obtain ⟨v, rfl, rv⟩ := repL_one r
    cases rep_int rv
    cases e
    exact ⟨_, rfl, k _ G H (Ext.refl sub) Rep.int⟩
  · cases e
def ordD : List D → Option D
  | [.str x] => if x.length = 1 then some (.int (x.cps.getD 0 0 : Nat)) else none
  | _ => none
theorem cd_ord {K : PySem.W.Frag} : CallD K (fun xs H Q => ∃ x, xs = [.str x] ∧ x.length = 1 ∧ Q (.int (x.cps.getD 0 0 : Nat)) H) ordD := by
  intro vs ds d G H Q sub r e k
  unfold ordD at e
  split at e
  · obtain ⟨v, rfl, rv⟩ := repL_one r
    cases rep_str rv
    split at e
    · rename_i hl
      cases e
      exact ⟨_, rfl, hl, k _ G H (Ext.refl sub) Rep.int⟩
    · cases e
  · cases e
def tupleD : List D → Option D
  | [.lst xs] => some (.tup xs)
  | [.tup xs] => some (.tup xs)
  | _ => none
theorem cd_tuple {K : PySem.W.Frag} : CallD K (fun xs H Q => ∃ p ys, xs = [.ref p] ∧ ((SqL K H p ys ∧ ∀ l, H l = none → Q (.ref l) (upd H l (.tup ys))) ∨ (SqT K H p ys ∧ Q (.ref p) H))) tupleD := by
  intro vs ds d G H Q sub r e k
  unfold tupleD at e
  split at e
  · obtain ⟨v, rfl, rv⟩ := repL_one r
    obtain ⟨a, ws, rfl, q, rr⟩ := rep_lst rv
    cases e
    exact ⟨a, ws, rfl, .inl ⟨sub.seq q, fun p hp => k _ _ _ (Ext.laid sub hp) (rep_new_tup (sub.free hp) rr)⟩⟩
  · obtain ⟨v, rfl, rv⟩ := repL_one r
    obtain ⟨a, ws, rfl, q, rr⟩ := rep_tup rv
    cases e
    exact ⟨a, ws, rfl, .inr ⟨same_tup sub q, k _ G H (Ext.refl sub) rv⟩⟩
  · cases e
theorem vals_bools : ∀ {bs : List Bool} {us : List Value}, Vals (bs.map V.bl) us → us = bs.map Value.bool
  | [], _, .nil => rfl
  | b :: bs, _, .cons r t => by cases r; rw [vals_bools t]; rfl
def rAll (K : PySem.W.Frag) : List V → Hp → VK → Prop := fun xs H Q => ∃ (p : Addr) (bs : List Bool), xs = [.ref p] ∧ SqL K H p (bs.map V.bl) ∧ Q (.bl (bs.all id)) H
theorem all_range : ∀ (bs : List Bool), ((List.range bs.length).all fun i => (bs[i]?).getD true) = bs.all id := fun bs => by
  rw [Bool.eq_iff_iff, List.all_eq_true, List.all_eq_true]
  constructor
  · intro h x hx
    obtain ⟨i, hi, rfl⟩ := List.mem_iff_getElem.mp hx
    have := h i (List.mem_range.mpr hi)
    simpa [hi] using this
  · intro h i hi
    have hi' := List.mem_range.mp hi
    simpa [hi'] using h bs[i] (List.getElem_mem hi')
theorem call_all (hc : X.calm = true) : CallR X (.builtin "all") (rAll X.K) := by
  intro pins s σ H xs us Q I r h
  obtain ⟨p, bs, rfl, hq, q⟩ := h
  obtain ⟨u, rfl, r1⟩ := vals1 r
  cases r1
  obtain ⟨its, rv, pl, hz⟩ := I.list hq
  have e := vals_bools rv
  subst e
  have hl := pl.isList
  have hlt : p < s.heap.objs.size := by obtain ⟨_, e, _⟩ := hl; exact Heap.lt_size e
  refine call_all_walk (wpAny_pyIter_list hl ?_)
  refine ⟨s.heap.objs.size, [s.heap.objs.size, p], [s.heap.objs.size], (bs.map Value.bool).toArray.size, _, _, fun i => (bs[i]?).getD true, rfl, Walks.list (A := X.A.in1) (I.ok.hd hc) _ p (Nat.ne_of_lt hlt) (bs.map Value.bool).toArray,
    ⟨⟨_, Heap.get?_push_size _ rfl, rfl, rfl⟩, hl.push _⟩, fun i v s' Q' E' hP hQ => ?_, fun h' tk hk => ?_⟩
  · have hP' : (bs.map Value.bool)[i]? = some v := by simpa using hP
    rw [List.getElem?_map] at hP'
    obtain ⟨b, hb, rfl⟩ := Option.map_eq_some_iff.mp hP'
    simp only [hb, Option.getD_some] at hQ
    exact wpAny_truthy_bool hQ
  · have e : ((List.range (bs.map Value.bool).toArray.size).all fun i => (bs[i]?).getD true) = bs.all id := by
      rw [List.size_toArray, List.length_map]
      exact all_range bs
    rw [e]
    exact ⟨.bl _, H, I.kept (t' := tk) fun b x ex => hk b x (fun hm => by rw [List.mem_singleton.mp hm] at ex; exact Nat.lt_irrefl _ (Heap.lt_size ex)) (Heap.get?_push_of_some _ ex), rfl, q⟩
def bools : List D → Option (List Bool)
  | [] => some []
  | .bl b :: r => (bools r).map (b :: ·)
  | _ => none
def allD : List D → Option D
  | [.lst xs] => (bools xs).map fun bs => .bl (bs.all id)
  | _ => none
theorem rep_bools {K : PySem.W.Frag} {H : Hp} : ∀ {ds : List D} {vs : List V} {bs : List Bool}, RepL K H ds vs → bools ds = some bs → vs = bs.map V.bl
  | [], vs, bs, r, e => by cases repL_nil r; cases e; rfl
  | d :: ds, vs, bs, r, e => by
    obtain ⟨v, t, rfl, r1, r2⟩ := repL_cons r
    cases d <;> first | cases e | skip
    obtain ⟨bs', e1, rfl⟩ := Option.map_eq_some_iff.mp e
    cases rep_bl r1
    rw [rep_bools r2 e1]
    rfl
theorem cd_all {K : PySem.W.Frag} : CallD K (rAll K) allD := by
  intro vs ds d G H Q sub r e k
  unfold allD at e
  split at e
  · obtain ⟨v, rfl, rv⟩ := repL_one r
    obtain ⟨a, ws, rfl, q, rr⟩ := rep_lst rv
    obtain ⟨bs, e1, rfl⟩ := Option.map_eq_some_iff.mp e
    have := rep_bools rr e1
    subst this
    exact ⟨a, bs, rfl, sub.seq q, k _ G H (Ext.refl sub) Rep.bl⟩
  · cases e
end
end DL
set_option maxRecDepth 100000
set_option maxHeartbeats 4000000
namespace DL
open PySem PySem.Spec PyProof.Rows L2
mutual
def eqD : D → D → Bool
  | .non, .non => true
  | .bl a, .bl b => a == b
  | .bl a, .int b => (if a then 1 else 0) == b
  | .int a, .bl b => a == (if b then 1 else 0)
  | .int a, .int b => a == b
  | .str a, .str b => a == b
  | .tup xs, .tup ys => eqDL xs ys
  | .lst xs, .lst ys => eqDL xs ys
  | _, _ => false
def eqDL : List D → List D → Bool
  | [], [] => true
  | x :: xs, y :: ys => eqD x y && eqDL xs ys
  | _, _ => false
end
mutual
def noFn : D → Bool
  | .fn _ => false
  | .dk _ => false
  | .tup xs => noFnL xs
  | .lst xs => noFnL xs
  | _ => true
def noFnL : List D → Bool
  | [] => true
  | d :: ds => noFn d && noFnL ds
end
section
variable {X : Cx} {pins : List (Addr × Obj)} {σ : St} {H : Hp} {s : Shared}
theorem tup_lst_no (I : Inv X pins σ H s) {a : Addr} {vs ws : List V} (h : SqT X.K H a vs) (h' : SqL X.K H a ws) : False := by
  obtain ⟨_, _, ⟨o, e, c, _⟩, _⟩ := I.tuple h
  obtain ⟨_, _, ⟨o', n, e', c', _⟩, _⟩ := I.list h'
  rw [e] at e'
  cases e'
  rw [c] at c'
  exact absurd c' (by simp)
mutual
theorem rep_same (I : Inv X pins σ H s) : ∀ (d d' : D) (v : V), noFn d = true → noFn d' = true → Rep X.K H d v → Rep X.K H d' v → eqD d d' = true
  | .non, d', v, n, n', r, r' => by
    cases rep_non r
    cases d' <;> first
      | rfl
      | (unfold Rep at r'; cases r'; done)
      | (obtain ⟨a, vs, e, _⟩ := rep_tup r'; cases e)
      | (obtain ⟨a, vs, e, _⟩ := rep_lst r'; cases e)
      | (unfold noFn at n'; cases n')
  | .bl b, d', v, n, n', r, r' => by
    cases rep_bl r
    cases d' <;> first
      | (cases rep_bl r'; simp [eqD]; done)
      | (unfold Rep at r'; cases r'; done)
      | (obtain ⟨a, vs, e, _⟩ := rep_tup r'; cases e)
      | (obtain ⟨a, vs, e, _⟩ := rep_lst r'; cases e)
      | (unfold noFn at n'; cases n')
  | .int b, d', v, n, n', r, r' => by
    cases rep_int r
    cases d' <;> first
      | (cases rep_int r'; simp [eqD]; done)
      | (unfold Rep at r'; cases r'; done)
      | (obtain ⟨a, vs, e, _⟩ := rep_tup r'; cases e)
      | (obtain ⟨a, vs, e, _⟩ := rep_lst r'; cases e)
      | (unfold noFn at n'; cases n')
  | .str b, d', v, n, n', r, r' => by
    cases rep_str r
    cases d' <;> first
      | (cases rep_str r'; simp [eqD]; done)
      | (unfold Rep at r'; cases r'; done)
      | (obtain ⟨a, vs, e, _⟩ := rep_tup r'; cases e)
      | (obtain ⟨a, vs, e, _⟩ := rep_lst r'; cases e)
      | (unfold noFn at n'; cases n')
  | .tup xs, d', v, n, n', r, r' => by
    obtain ⟨a, vs, rfl, q, rr⟩ := rep_tup r
    cases d' with
    | tup ys =>
      obtain ⟨a', vs', e, q', rr'⟩ := rep_tup r'
      cases e
      have := I.tuple_inj q q'
      subst this
      unfold noFn at n n'
      unfold eqD
      exact repL_same I xs ys vs n n' rr rr'
    | lst ys =>
      obtain ⟨a', vs', e, q', rr'⟩ := rep_lst r'
      cases e
      exact (tup_lst_no I q q').elim
    | fn b => unfold noFn at n'; cases n'
    | dk b => unfold noFn at n'; cases n'
    | non => cases rep_non r'
    | bl b => cases rep_bl r'
    | int b => cases rep_int r'
    | str b => cases rep_str r'
  | .lst xs, d', v, n, n', r, r' => by
    obtain ⟨a, vs, rfl, q, rr⟩ := rep_lst r
    cases d' with
    | lst ys =>
      obtain ⟨a', vs', e, q', rr'⟩ := rep_lst r'
      cases e
      have := I.list_inj q q'
      subst this
      unfold noFn at n n'
      unfold eqD
      exact repL_same I xs ys vs n n' rr rr'
    | tup ys =>
      obtain ⟨a', vs', e, q', rr'⟩ := rep_tup r'
      cases e
      exact (tup_lst_no I q' q).elim
    | fn b => unfold noFn at n'; cases n'
    | dk b => unfold noFn at n'; cases n'
    | non => cases rep_non r'
    | bl b => cases rep_bl r'
    | int b => cases rep_int r'
    | str b => cases rep_str r'
  | .fn a, d', v, n, n', r, r' => by unfold noFn at n; cases n
  | .dk a, d', v, n, n', r, r' => by unfold noFn at n; cases n
theorem repL_same (I : Inv X pins σ H s) : ∀ (ds es : List D) (vs : List V), noFnL ds = true → noFnL es = true → RepL X.K H ds vs → RepL X.K H es vs → eqDL ds es = true
  | [], es, vs, n, n', r, r' => by
    cases repL_nil r
    cases es with
    | nil => rfl
    | cons e es => obtain ⟨v, t, z, _⟩ := repL_cons r'; cases z
  | d :: ds, es, vs, n, n', r, r' => by
    obtain ⟨v, t, rfl, r1, r2⟩ := repL_cons r
    cases es with
    | nil => cases repL_nil r'
    | cons e es =>
      obtain ⟨v', t', z, r1', r2'⟩ := repL_cons r'
      cases z
      unfold noFnL at n n'
      rw [Bool.and_eq_true] at n n'
      unfold eqDL
      rw [Bool.and_eq_true]
      exact ⟨rep_same I d e v n.1 n'.1 r1 r1', repL_same I ds es t n.2 n'.2 r2 r2'⟩
end
theorem all_eqDL : ∀ (xs ys : List D), xs.length = ys.length → ((List.range xs.length).all fun j => eqD (xs.getD j .non) (ys.getD j .non)) = eqDL xs ys
  | [], [], _ => rfl
  | x :: xs, y :: ys, h => by
    have ih := all_eqDL xs ys (by simpa using h)
    unfold eqDL
    rw [List.length_cons, List.range_succ_eq_map, List.all_cons, ← ih, List.all_map]
    rfl
  | [], _ :: _, h => by simp at h
  | _ :: _, [], h => by simp at h
theorem eqDL_len : ∀ (xs ys : List D), xs.length ≠ ys.length → eqDL xs ys = false
  | [], [], h => absurd rfl h
  | x :: xs, y :: ys, h => by
    unfold eqDL
    rw [eqDL_len xs ys (by simpa using h), Bool.and_false]
  | [], _ :: _, _ => rfl
  | _ :: _, [], _ => rfl
theorem items_eq {ds es : List D} {vs ws : List V} {us us' : List Value} {A : Around} (rd : RepL X.K H ds vs) (re : RepL X.K H es ws) (rv : Vals vs us) (rw' : Vals ws us')
    (h : ∀ (j : Nat) u u', us[j]? = some u → us'[j]? = some u' → SeqAt.EqAt A s u u' (eqD (ds.getD j .non) (es.getD j .non))) :
    ∀ j (h1 : j < us.toArray.size) (h2 : j < us'.toArray.size), SeqAt.EqAt A s us.toArray[j] us'.toArray[j] (eqD (ds.getD j .non) (es.getD j .non)) := fun j h1 h2 => by
  have l1 : j < us.length := by simpa using h1
  have l2 : j < us'.length := by simpa using h2
  exact h j _ _ (by simp [l1]) (by simp [l2])
theorem rc_tuples {ds es : List D} {vs ws : List V} {a b : Addr} {A : Around} (I : Inv X pins σ H s) (qa : SqT X.K H a vs) (qb : SqT X.K H b ws) (rd : RepL X.K H ds vs) (re : RepL X.K H es ws) (hu : A.units < cLine)
    (h : ∀ (us us' : List Value), Vals vs us → Vals ws us' → ∀ (j : Nat) u u', us[j]? = some u → us'[j]? = some u' → SeqAt.EqAt A.in1 s u u' (eqD (ds.getD j .non) (es.getD j .non))) : SeqAt.RcAt A s (.ref a) (.ref b) (eqDL ds es) := by
  obtain ⟨us, rv, p1, _⟩ := I.tuple qa
  obtain ⟨us', rw', p2, _⟩ := I.tuple qb
  have h1 := repL_length rd
  have h2 := repL_length re
  have h3 := rv.length
  have h4 := rw'.length
  have z := SeqAt.RcAt.tuples (A := A) (e := fun j => eqD (ds.getD j .non) (es.getD j .non)) p1 p2 hu (items_eq rd re rv rw' (h us us' rv rw'))
  have e : ((List.range (min us.toArray.size us'.toArray.size)).all (fun j => eqD (ds.getD j .non) (es.getD j .non)) && us.toArray.size == us'.toArray.size) = eqDL ds es := by
    rw [List.size_toArray, List.size_toArray, ← h3, ← h4, ← h1, ← h2]
    by_cases hl : ds.length = es.length
    · rw [hl, Nat.min_self, ← hl, all_eqDL ds es hl, hl]
      simp
    · rw [eqDL_len ds es hl]
      have : (ds.length == es.length) = false := by simpa using hl
      rw [this, Bool.and_false]
  rw [e] at z
  exact z
theorem rc_lists {ds es : List D} {vs ws : List V} {a b : Addr} {A : Around} (I : Inv X pins σ H s) (qa : SqL X.K H a vs) (qb : SqL X.K H b ws) (rd : RepL X.K H ds vs) (re : RepL X.K H es ws) (hu : A.units < cLine)
    (h : ∀ (us us' : List Value), Vals vs us → Vals ws us' → ∀ (j : Nat) u u', us[j]? = some u → us'[j]? = some u' → SeqAt.EqAt A.in1 s u u' (eqD (ds.getD j .non) (es.getD j .non))) : SeqAt.RcAt A s (.ref a) (.ref b) (eqDL ds es) := by
  obtain ⟨us, rv, p1, _⟩ := I.list qa
  obtain ⟨us', rw', p2, _⟩ := I.list qb
  have h1 := repL_length rd
  have h2 := repL_length re
  have h3 := rv.length
  have h4 := rw'.length
  by_cases hl : ds.length = es.length
  · have z := SeqAt.RcAt.lists (A := A) (e := fun j => eqD (ds.getD j .non) (es.getD j .non)) p1.isList p2.isList (by rw [List.size_toArray, List.size_toArray]; omega) hu (items_eq rd re rv rw' (h us us' rv rw'))
    rw [List.size_toArray, ← h3, ← h1, all_eqDL ds es hl] at z
    exact z
  · rw [eqDL_len ds es hl]
    exact SeqAt.RcAt.lists_lengths p1.isList p2.isList (by rw [List.size_toArray, List.size_toArray, ← h3, ← h4, ← h1, ← h2]; simpa using hl) hu
theorem isTup_of (I : Inv X pins σ H s) {a : Addr} {vs : List V} (q : SqT X.K H a vs) : ∃ items, s.heap.IsTuple a items := let ⟨its, _, p, _⟩ := I.tuple q; ⟨_, p⟩
theorem isList_of (I : Inv X pins σ H s) {a : Addr} {vs : List V} (q : SqL X.K H a vs) : ∃ items, s.heap.IsList a items := let ⟨its, _, p, _⟩ := I.list q; ⟨_, p.isList⟩
mutual
theorem eqAt_D (I : Inv X pins σ H s) : ∀ (d d' : D) (A : Around) (v v' : V) (u u' : Value), noFn d = true → noFn d' = true → A.units + dep d < cLine → Rep X.K H d v → Rep X.K H d' v' → RelV v u → RelV v' u' → SeqAt.EqAt A s u u' (eqD d d')
  | .non, d', A, v, v', u, u', n, n', hu, r, r', ru, ru' => by
    have hu' : A.units < cLine := by omega
    cases rep_non r
    cases ru
    cases d' with
    | non => cases rep_non r'; cases ru'; exact SeqAt.EqAt.same _
    | bl b => cases rep_bl r'; cases ru'; exact SeqAt.EqAt.none_bool b
    | int b => cases rep_int r'; obtain ⟨t, rfl⟩ := ru'; exact SeqAt.EqAt.none_int b t
    | str b => cases rep_str r'; obtain ⟨t, rfl⟩ := ru'; exact SeqAt.EqAt.none_str b t
    | tup ys => obtain ⟨a, ws, rfl, q, _⟩ := rep_tup r'; cases ru'; obtain ⟨its, p⟩ := isTup_of I q; exact SeqAt.EqAt.none_tuple p hu'
    | lst ys => obtain ⟨a, ws, rfl, q, _⟩ := rep_lst r'; cases ru'; obtain ⟨its, p⟩ := isList_of I q; exact SeqAt.EqAt.none_list p hu'
    | fn a => unfold noFn at n'; cases n'
    | dk a => unfold noFn at n'; cases n'
  | .bl x, d', A, v, v', u, u', n, n', hu, r, r', ru, ru' => by
    have hu' : A.units < cLine := by omega
    cases rep_bl r
    cases ru
    cases d' with
    | non => cases rep_non r'; cases ru'; exact SeqAt.EqAt.bool_none x
    | bl b => cases rep_bl r'; cases ru'; exact SeqAt.EqAt.bool_bool x b
    | int b => cases rep_int r'; obtain ⟨t, rfl⟩ := ru'; exact SeqAt.EqAt.bool_int x b t
    | str b => cases rep_str r'; obtain ⟨t, rfl⟩ := ru'; exact SeqAt.EqAt.bool_str x b t
    | tup ys => obtain ⟨a, ws, rfl, q, _⟩ := rep_tup r'; cases ru'; obtain ⟨its, p⟩ := isTup_of I q; exact SeqAt.EqAt.bool_tuple x p hu'
    | lst ys => obtain ⟨a, ws, rfl, q, _⟩ := rep_lst r'; cases ru'; obtain ⟨its, p⟩ := isList_of I q; exact SeqAt.EqAt.bool_list x p hu'
    | fn a => unfold noFn at n'; cases n'
    | dk a => unfold noFn at n'; cases n'
  | .int x, d', A, v, v', u, u', n, n', hu, r, r', ru, ru' => by
    have hu' : A.units < cLine := by omega
    cases rep_int r
    obtain ⟨tk, rfl⟩ := ru
    cases d' with
    | non => cases rep_non r'; cases ru'; exact SeqAt.EqAt.int_none x tk
    | bl b => cases rep_bl r'; cases ru'; exact SeqAt.EqAt.int_bool x tk b
    | int b => cases rep_int r'; obtain ⟨t, rfl⟩ := ru'; exact SeqAt.EqAt.int_int x tk b t
    | str b => cases rep_str r'; obtain ⟨t, rfl⟩ := ru'; exact SeqAt.EqAt.int_str x tk b t
    | tup ys => obtain ⟨a, ws, rfl, q, _⟩ := rep_tup r'; cases ru'; obtain ⟨its, p⟩ := isTup_of I q; exact SeqAt.EqAt.int_tuple x tk p hu'
    | lst ys => obtain ⟨a, ws, rfl, q, _⟩ := rep_lst r'; cases ru'; obtain ⟨its, p⟩ := isList_of I q; exact SeqAt.EqAt.int_list x tk p hu'
    | fn a => unfold noFn at n'; cases n'
    | dk a => unfold noFn at n'; cases n'
  | .str x, d', A, v, v', u, u', n, n', hu, r, r', ru, ru' => by
    have hu' : A.units < cLine := by omega
    cases rep_str r
    obtain ⟨tk, rfl⟩ := ru
    cases d' with
    | non => cases rep_non r'; cases ru'; exact SeqAt.EqAt.str_none x tk
    | bl b => cases rep_bl r'; cases ru'; exact SeqAt.EqAt.str_bool x tk b
    | int b => cases rep_int r'; obtain ⟨t, rfl⟩ := ru'; exact SeqAt.EqAt.str_int x tk b t
    | str b => cases rep_str r'; obtain ⟨t, rfl⟩ := ru'; exact SeqAt.EqAt.str_str x tk b t
    | tup ys => obtain ⟨a, ws, rfl, q, _⟩ := rep_tup r'; cases ru'; obtain ⟨its, p⟩ := isTup_of I q; exact SeqAt.EqAt.str_tuple x tk p hu'
    | lst ys => obtain ⟨a, ws, rfl, q, _⟩ := rep_lst r'; cases ru'; obtain ⟨its, p⟩ := isList_of I q; exact SeqAt.EqAt.str_list x tk p hu'
    | fn a => unfold noFn at n'; cases n'
    | dk a => unfold noFn at n'; cases n'
  | .tup xs, d', A, v, v', u, u', n, n', hu, r, r', ru, ru' => by
    have hu' : A.units < cLine := by omega
    have rfull := r
    obtain ⟨a, vs, rfl, q, rr⟩ := rep_tup r
    cases ru
    obtain ⟨its, p⟩ := isTup_of I q
    cases d' with
    | non => cases rep_non r'; cases ru'; exact SeqAt.EqAt.tuple_none p hu'
    | bl b => cases rep_bl r'; cases ru'; exact SeqAt.EqAt.tuple_bool b p hu'
    | int b => cases rep_int r'; obtain ⟨t, rfl⟩ := ru'; exact SeqAt.EqAt.tuple_int b t p hu'
    | str b => cases rep_str r'; obtain ⟨t, rfl⟩ := ru'; exact SeqAt.EqAt.tuple_str b t p hu'
    | lst ys => obtain ⟨b, ws, rfl, q', _⟩ := rep_lst r'; cases ru'; obtain ⟨its', p'⟩ := isList_of I q'; exact SeqAt.EqAt.tuple_list p p' hu'
    | fn b => unfold noFn at n'; cases n'
    | dk b => unfold noFn at n'; cases n'
    | tup ys =>
      have r2 := r'
      obtain ⟨b, ws, rfl, q', rr'⟩ := rep_tup r'
      cases ru'
      by_cases hab : a = b
      · subst hab
        rw [rep_same I _ _ _ n n' rfull r2]
        exact SeqAt.EqAt.same _
      · unfold noFn at n n'
        unfold dep at hu
        unfold eqD
        exact .of_refs hab (rc_tuples I q q' rr rr' hu' fun us us' rv rw' => eqAt_DL I xs ys A.in1 vs ws us us' n n' (by show A.units + 1 + depL xs < cLine; omega) rr rr' rv rw')
  | .lst xs, d', A, v, v', u, u', n, n', hu, r, r', ru, ru' => by
    have hu' : A.units < cLine := by omega
    have rfull := r
    obtain ⟨a, vs, rfl, q, rr⟩ := rep_lst r
    cases ru
    obtain ⟨its, p⟩ := isList_of I q
    cases d' with
    | non => cases rep_non r'; cases ru'; exact SeqAt.EqAt.list_none p hu'
    | bl b => cases rep_bl r'; cases ru'; exact SeqAt.EqAt.list_bool b p hu'
    | int b => cases rep_int r'; obtain ⟨t, rfl⟩ := ru'; exact SeqAt.EqAt.list_int b t p hu'
    | str b => cases rep_str r'; obtain ⟨t, rfl⟩ := ru'; exact SeqAt.EqAt.list_str b t p hu'
    | tup ys => obtain ⟨b, ws, rfl, q', _⟩ := rep_tup r'; cases ru'; obtain ⟨its', p'⟩ := isTup_of I q'; exact SeqAt.EqAt.list_tuple p p' hu'
    | fn b => unfold noFn at n'; cases n'
    | dk b => unfold noFn at n'; cases n'
    | lst ys =>
      have r2 := r'
      obtain ⟨b, ws, rfl, q', rr'⟩ := rep_lst r'
      cases ru'
      by_cases hab : a = b
      · subst hab
        rw [rep_same I _ _ _ n n' rfull r2]
        exact SeqAt.EqAt.same _
      · unfold noFn at n n'
        unfold dep at hu
        unfold eqD
        exact .of_refs hab (rc_lists I q q' rr rr' hu' fun us us' rv rw' => eqAt_DL I xs ys A.in1 vs ws us us' n n' (by show A.units + 1 + depL xs < cLine; omega) rr rr' rv rw')
  | .fn a, d', A, v, v', u, u', n, n', hu, r, r', ru, ru' => by unfold noFn at n; cases n
  | .dk a, d', A, v, v', u, u', n, n', hu, r, r', ru, ru' => by unfold noFn at n; cases n
theorem eqAt_DL (I : Inv X pins σ H s) : ∀ (ds es : List D) (A : Around) (vs ws : List V) (us us' : List Value), noFnL ds = true → noFnL es = true → A.units + depL ds < cLine → RepL X.K H ds vs → RepL X.K H es ws → Vals vs us → Vals ws us' →
    ∀ (j : Nat) u u', us[j]? = some u → us'[j]? = some u' → SeqAt.EqAt A s u u' (eqD (ds.getD j .non) (es.getD j .non))
  | [], es, A, vs, ws, us, us', n, n', hu, r, r', rv, rw', j, u, u', e, e' => by
    cases repL_nil r
    cases rv
    simp at e
  | d :: ds, es, A, vs, ws, us, us', n, n', hu, r, r', rv, rw', j, u, u', e, e' => by
    obtain ⟨v, t, rfl, r1, r2⟩ := repL_cons r
    cases es with
    | nil =>
      cases repL_nil r'
      cases rw'
      simp at e'
    | cons c es =>
      obtain ⟨w, t', rfl, r1', r2'⟩ := repL_cons r'
      unfold noFnL at n n'
      rw [Bool.and_eq_true] at n n'
      unfold depL at hu
      cases rv with
      | cons rv1 rv2 =>
        cases rw' with
        | cons rw1 rw2 =>
          cases j with
          | zero =>
            simp at e e'
            subst e e'
            exact eqAt_D I d c A v w _ _ n.1 n'.1 (by omega) r1 r1' rv1 rw1
          | succ j =>
            exact eqAt_DL I ds es A t t' _ _ n.2 n'.2 (by omega) r2 r2' rv2 rw2 j u u' (by simpa using e) (by simpa using e')
end
theorem rcAt_D (I : Inv X pins σ H s) (d d' : D) {A : Around} {v v' : V} {u u' : Value} (n : noFn d = true) (n' : noFn d' = true) (hu : A.units + dep d < cLine) (r : Rep X.K H d v) (r' : Rep X.K H d' v') (ru : RelV v u) (ru' : RelV v' u') : SeqAt.RcAt A s u u' (eqD d d') := by
  have hu' : A.units < cLine := by omega
  cases d with
  | non =>
    cases rep_non r
    cases ru
    cases d' with
    | non => cases rep_non r'; cases ru'; exact SeqAt.RcAt.none_none
    | bl b => cases rep_bl r'; cases ru'; exact SeqAt.RcAt.none_bool b
    | int b => cases rep_int r'; obtain ⟨t, rfl⟩ := ru'; exact SeqAt.RcAt.none_int b t
    | str b => cases rep_str r'; obtain ⟨t, rfl⟩ := ru'; exact SeqAt.RcAt.none_str b t
    | tup ys => obtain ⟨a, ws, rfl, q, _⟩ := rep_tup r'; cases ru'; obtain ⟨its, p⟩ := isTup_of I q; exact SeqAt.RcAt.none_tuple p hu'
    | lst ys => obtain ⟨a, ws, rfl, q, _⟩ := rep_lst r'; cases ru'; obtain ⟨its, p⟩ := isList_of I q; exact SeqAt.RcAt.none_list p hu'
    | fn a => unfold noFn at n'; cases n'
    | dk a => unfold noFn at n'; cases n'
  | bl x =>
    cases rep_bl r
    cases ru
    cases d' with
    | non => cases rep_non r'; cases ru'; exact SeqAt.RcAt.bool_none x
    | bl b => cases rep_bl r'; cases ru'; exact SeqAt.RcAt.bool_bool x b
    | int b => cases rep_int r'; obtain ⟨t, rfl⟩ := ru'; exact SeqAt.RcAt.bool_int x b t
    | str b => cases rep_str r'; obtain ⟨t, rfl⟩ := ru'; exact SeqAt.RcAt.bool_str x b t
    | tup ys => obtain ⟨a, ws, rfl, q, _⟩ := rep_tup r'; cases ru'; obtain ⟨its, p⟩ := isTup_of I q; exact SeqAt.RcAt.bool_tuple x p hu'
    | lst ys => obtain ⟨a, ws, rfl, q, _⟩ := rep_lst r'; cases ru'; obtain ⟨its, p⟩ := isList_of I q; exact SeqAt.RcAt.bool_list x p hu'
    | fn a => unfold noFn at n'; cases n'
    | dk a => unfold noFn at n'; cases n'
  | int x =>
    cases rep_int r
    obtain ⟨tk, rfl⟩ := ru
    cases d' with
    | non => cases rep_non r'; cases ru'; exact SeqAt.RcAt.int_none x tk
    | bl b => cases rep_bl r'; cases ru'; exact SeqAt.RcAt.int_bool x tk b
    | int b => cases rep_int r'; obtain ⟨t, rfl⟩ := ru'; exact SeqAt.RcAt.int_int x tk b t
    | str b => cases rep_str r'; obtain ⟨t, rfl⟩ := ru'; exact SeqAt.RcAt.int_str x tk b t
    | tup ys => obtain ⟨a, ws, rfl, q, _⟩ := rep_tup r'; cases ru'; obtain ⟨its, p⟩ := isTup_of I q; exact SeqAt.RcAt.int_tuple x tk p hu'
    | lst ys => obtain ⟨a, ws, rfl, q, _⟩ := rep_lst r'; cases ru'; obtain ⟨its, p⟩ := isList_of I q; exact SeqAt.RcAt.int_list x tk p hu'
    | fn a => unfold noFn at n'; cases n'
    | dk a => unfold noFn at n'; cases n'
  | str x =>
    cases rep_str r
    obtain ⟨tk, rfl⟩ := ru
    cases d' with
    | non => cases rep_non r'; cases ru'; exact SeqAt.RcAt.str_none x tk
    | bl b => cases rep_bl r'; cases ru'; exact SeqAt.RcAt.str_bool x tk b
    | int b => cases rep_int r'; obtain ⟨t, rfl⟩ := ru'; exact SeqAt.RcAt.str_int x tk b t
    | str b => cases rep_str r'; obtain ⟨t, rfl⟩ := ru'; exact SeqAt.RcAt.str_str x tk b t
    | tup ys => obtain ⟨a, ws, rfl, q, _⟩ := rep_tup r'; cases ru'; obtain ⟨its, p⟩ := isTup_of I q; exact SeqAt.RcAt.str_tuple x tk p hu'
    | lst ys => obtain ⟨a, ws, rfl, q, _⟩ := rep_lst r'; cases ru'; obtain ⟨its, p⟩ := isList_of I q; exact SeqAt.RcAt.str_list x tk p hu'
    | fn a => unfold noFn at n'; cases n'
    | dk a => unfold noFn at n'; cases n'
  | tup xs =>
    obtain ⟨a, vs, rfl, q, rr⟩ := rep_tup r
    cases ru
    obtain ⟨its, p⟩ := isTup_of I q
    cases d' with
    | non => cases rep_non r'; cases ru'; exact SeqAt.RcAt.tuple_none p hu'
    | bl b => cases rep_bl r'; cases ru'; exact SeqAt.RcAt.tuple_bool b p hu'
    | int b => cases rep_int r'; obtain ⟨t, rfl⟩ := ru'; exact SeqAt.RcAt.tuple_int b t p hu'
    | str b => cases rep_str r'; obtain ⟨t, rfl⟩ := ru'; exact SeqAt.RcAt.tuple_str b t p hu'
    | lst ys => obtain ⟨b, ws, rfl, q', _⟩ := rep_lst r'; cases ru'; obtain ⟨its', p'⟩ := isList_of I q'; exact SeqAt.RcAt.tuple_list p p' hu'
    | fn b => unfold noFn at n'; cases n'
    | dk b => unfold noFn at n'; cases n'
    | tup ys =>
      obtain ⟨b, ws, rfl, q', rr'⟩ := rep_tup r'
      cases ru'
      unfold noFn at n n'
      unfold dep at hu
      unfold eqD
      exact rc_tuples I q q' rr rr' hu' fun us us' rv rw' => eqAt_DL I xs ys A.in1 vs ws us us' n n' (by show A.units + 1 + depL xs < cLine; omega) rr rr' rv rw'
  | lst xs =>
    obtain ⟨a, vs, rfl, q, rr⟩ := rep_lst r
    cases ru
    obtain ⟨its, p⟩ := isList_of I q
    cases d' with
    | non => cases rep_non r'; cases ru'; exact SeqAt.RcAt.list_none p hu'
    | bl b => cases rep_bl r'; cases ru'; exact SeqAt.RcAt.list_bool b p hu'
    | int b => cases rep_int r'; obtain ⟨t, rfl⟩ := ru'; exact SeqAt.RcAt.list_int b t p hu'
    | str b => cases rep_str r'; obtain ⟨t, rfl⟩ := ru'; exact SeqAt.RcAt.list_str b t p hu'
    | tup ys => obtain ⟨b, ws, rfl, q', _⟩ := rep_tup r'; cases ru'; obtain ⟨its', p'⟩ := isTup_of I q'; exact SeqAt.RcAt.list_tuple p p' hu'
    | fn b => unfold noFn at n'; cases n'
    | dk b => unfold noFn at n'; cases n'
    | lst ys =>
      obtain ⟨b, ws, rfl, q', rr'⟩ := rep_lst r'
      cases ru'
      unfold noFn at n n'
      unfold dep at hu
      unfold eqD
      exact rc_lists I q q' rr rr' hu' fun us us' rv rw' => eqAt_DL I xs ys A.in1 vs ws us us' n n' (by show A.units + 1 + depL xs < cLine; omega) rr rr' rv rw'
  | fn a => unfold noFn at n; cases n
  | dk a => unfold noFn at n; cases n
def rEqD (K : PySem.W.Frag) : R2 := fun x y H Q => ∃ dx dy, Rep K H dx x ∧ Rep K H dy y ∧ noFn dx = true ∧ noFn dy = true ∧ dep dx ≤ 40 ∧ Q (.bl (eqD dx dy)) H
theorem op_eqD (hu : X.A.units + 64 < cLine) : OpR X (compareOp .Eq) (rEqD X.K) := by
  intro pins s σ H x y v u Q I rx ry h
  obtain ⟨dx, dy, r1, r2, n1, n2, hd, q⟩ := h
  exact rcAt_D I dx dy n1 n2 (by omega) r1 r2 rx ry X.prog X.w X.xe _ ⟨.bl _, H, I, rfl, q⟩
def eqD' : D → D → Option D := fun x y => if noFn x && noFn y && decide (dep x ≤ 40) then some (.bl (eqD x y)) else none
theorem od_eqD {K : PySem.W.Frag} : OpD K (rEqD K) eqD' := by
  intro x y dx dy d G H Q sub rx ry e k
  unfold eqD' at e
  split at e
  · rename_i h
    rw [Bool.and_eq_true, Bool.and_eq_true, decide_eq_true_eq] at h
    cases e
    exact ⟨dx, dy, rx.mono sub, ry.mono sub, h.1.1, h.1.2, h.2, k _ G H (Ext.refl sub) Rep.bl⟩
  · cases e
end
end DL
set_option maxRecDepth 100000
set_option maxHeartbeats 4000000
namespace DL
open PySem PySem.Spec PyProof.Rows L2
def ItD (K : PySem.W.Frag) (J : It) (ds : List D) (G1 : Hp) : Prop := ∀ (i : Nat) (G' H' : Hp), Same G1 G' → Same G' H' →
  (∀ d, ds[i]? = some d → J.go i H' ∧ ∀ x H'', J.yld i H' x H'' → ∃ G'', Ext G' H' G'' H'' ∧ Rep K G'' d x) ∧ (i = ds.length → J.stop i H')
def tiD (K : PySem.W.Frag) (own : List Nat) (fi : DEnv → Option (List D)) : TI := fun σ H R => ∃ G ρ ds, OR K own G H σ ρ ∧ fi ρ = some ds ∧ ∀ J G1 H1, Ext G H G1 H1 → ItD K J ds G1 → R J H1
structure DI (X : Cx) (own : List Nat) (tg iter : Expr) (fi : DEnv → Option (List D)) : Prop where
  ok : PI X tg iter (tiD X.K own fi)
section
variable {X : Cx} {own : List Nat} {e a b c tg : Expr} {es : List Expr} {pos p2 : Pos} {f fa fb fc : DEnv → Option D} {fs fi : DEnv → Option (List D)} {ft fu : DEnv → Option Bool}
theorem di_of {wi : TI} (h : PI X tg e wi) (hw : ∀ σ G H R ρ ds, OR X.K own G H σ ρ → fi ρ = some ds → (∀ J G1 H1, Ext G H G1 H1 → ItD X.K J ds G1 → R J H1) → wi σ H R) : DI X own tg e fi := ⟨fun pins s σ H R I ⟨G, ρ, ds, er, e, k⟩ => h pins s σ H R I (hw σ G H R ρ ds er e k)⟩
def iLst (f : DEnv → Option D) : DEnv → Option (List D) := fun ρ => (f ρ).bind fun d => match d with | .lst xs => some xs | _ => none
def iTup (f : DEnv → Option D) : DEnv → Option (List D) := fun ρ => (f ρ).bind fun d => match d with | .tup xs => some xs | _ => none
theorem itd_list {K : PySem.W.Frag} {G1 : Hp} {ad : Addr} {vs : List V} {ds : List D} (q : SqL K G1 ad vs) (r : RepL K G1 ds vs) : ItD K (Itl K ad) ds G1 := by
  intro i G' H' s1 s2
  have q' : SqL K H' ad vs := s2.seq (s1.seq q)
  refine ⟨fun d hd => ?_, fun hi => ⟨vs, q', by rw [← repL_length r, hi]; exact Nat.le_refl _⟩⟩
  obtain ⟨v, h1, h2⟩ := repL_get r hd
  refine ⟨⟨vs, v, q', h1⟩, fun x H'' hy => ?_⟩
  obtain ⟨e1, e2⟩ := hy
  subst e1
  have := e2 vs q'
  rw [h1] at this
  cases this
  exact ⟨G', Ext.refl s2, h2.mono s1⟩
theorem itd_tup {K : PySem.W.Frag} {G1 : Hp} {ad : Addr} {vs : List V} {ds : List D} (q : SqT K G1 ad vs) (r : RepL K G1 ds vs) : ItD K (Itt K ad) ds G1 := by
  intro i G' H' s1 s2
  have q' : SqT K H' ad vs := same_tup s2 (same_tup s1 q)
  refine ⟨fun d hd => ?_, fun hi => ⟨vs, q', by rw [← repL_length r, hi]; exact Nat.le_refl _⟩⟩
  obtain ⟨v, h1, h2⟩ := repL_get r hd
  refine ⟨⟨vs, v, q', h1⟩, fun x H'' hy => ?_⟩
  obtain ⟨e1, e2⟩ := hy
  subst e1
  have := e2 vs q'
  rw [h1] at this
  cases this
  exact ⟨G', Ext.refl s2, h2.mono s1⟩
theorem di_list (h : DE X own a fa) : DI X own tg a (iLst fa) := di_of (pi_list h.ok) fun σ G H R ρ ds er e k => by
  obtain ⟨d, e1, e2⟩ := Option.bind_eq_some_iff.mp e
  cases d <;> first | cases e2 | skip
  refine ⟨G, ρ, _, er, e1, fun v G1 H1 s1 r1 => ?_⟩
  obtain ⟨p, vs, rfl, q, rr⟩ := rep_lst r1
  exact ⟨p, rfl, ⟨vs, s1.sub.seq q⟩, k _ G1 H1 s1 (itd_list q rr)⟩
theorem di_tup (h : DE X own a fa) : DI X own tg a (iTup fa) := di_of (pi_tup h.ok) fun σ G H R ρ ds er e k => by
  obtain ⟨d, e1, e2⟩ := Option.bind_eq_some_iff.mp e
  cases d <;> first | cases e2 | skip
  refine ⟨G, ρ, _, er, e1, fun v G1 H1 s1 r1 => ?_⟩
  obtain ⟨p, vs, rfl, q, rr⟩ := rep_tup r1
  exact ⟨p, rfl, ⟨vs, same_tup s1.sub q⟩, k _ G1 H1 s1 (itd_tup q rr)⟩
def rangeD (n : Nat) : List D := (List.range n).map fun i => .int (i : Nat)
def iRng (f : DEnv → Option D) : DEnv → Option (List D) := fun ρ => (f ρ).bind fun d => match d with | .int j => if -1000 ≤ j ∧ j ≤ 100000 then some (rangeD j.toNat) else none | _ => none
theorem itd_range {K : PySem.W.Frag} {G1 : Hp} {n : Nat} : ItD K (Itr 0 n) (rangeD n) G1 := by
  intro i G' H' s1 s2
  unfold rangeD
  refine ⟨fun d hd => ?_, fun hi => by rw [List.length_map, List.length_range] at hi; exact Nat.le_of_eq hi.symm⟩
  rw [List.getElem?_map] at hd
  obtain ⟨j, hj, rfl⟩ := Option.map_eq_some_iff.mp hd
  obtain ⟨hl, he⟩ := List.getElem?_eq_some_iff.mp hj
  rw [List.getElem_range] at he
  subst he
  rw [List.length_range] at hl
  refine ⟨hl, fun x H'' hy => ?_⟩
  obtain ⟨e1, e2⟩ := hy
  subst e1 e2
  refine ⟨G', Ext.refl s2, ?_⟩
  rw [Int.zero_add]
  exact Rep.int
theorem di_range {p pos : Pos} (hg : Gl X "range") (hm : X.mg "range" = none) (h : DE X own a fa) (hs : starEach [a] X.env = [(false, eval a X.env)] := by rfl) (hs1 : starEach (a :: []) X.env = (false, eval a X.env) :: starEach [] X.env := by rfl) :
    DI X own tg (.Call (.Name "range" p) [a] [] pos) (iRng fa) := di_of (pi_range1 hg hm (pa_cons h.ok pa_nil hs1) hs) fun σ G H R ρ ds er e k => by
  obtain ⟨d, e1, e2⟩ := Option.bind_eq_some_iff.mp e
  cases d <;> first | cases e2 | skip
  rename_i j
  have e3 : (if -1000 ≤ j ∧ j ≤ 100000 then some (rangeD j.toNat) else none) = some ds := e2
  split at e3
  · rename_i hj
    cases e3
    refine ⟨G, ρ, _, er, e1, fun v G1 H1 s1 r1 => ?_⟩
    cases rep_int r1
    exact ⟨j, rfl, by omega, by omega, k _ G1 H1 s1 itd_range⟩
  · cases e3

def compF (bnd : D → DEnv → Option DEnv) (ft : DEnv → Option Bool) (fe : DEnv → Option D) (ρ : DEnv) : List D → Option (List D)
  | [] => some []
  | d :: ds => (bnd d ρ).bind fun ρ1 => (ft ρ1).bind fun b => if b then (fe ρ1).bind fun y => (compF bnd ft fe ρ ds).map (y :: ·) else compF bnd ft fe ρ ds
def GD (K : PySem.W.Frag) (g : TG) (bnd : D → DEnv → Option DEnv) : Prop := ∀ {x : V} {d : D} {σ : St} {G H : Hp} {ρ ρ1 : DEnv} {Q : St → Hp → Prop}, OR K [] G H σ ρ → Rep K G d x → bnd d ρ = some ρ1 → (∀ σ1, OR K [] G H σ1 ρ1 → Le ρ ρ1 → Q σ1 H) → g x σ H Q
def bName (i : Nat) : D → DEnv → Option DEnv := fun d ρ => match ρ[i]? with | some none => some (ρ.set i (some d)) | _ => none
theorem gd_name {K : PySem.W.Frag} (i : Nat) : GD K (gName i) (bName i) := by
  intro x d σ G H ρ ρ1 Q er r e k
  unfold bName at e
  split at e
  · rename_i h
    cases e
    exact k _ (er.set (by simp) r) ((Le.refl ρ).set h)
  · cases e
def bPair (i j : Nat) : D → DEnv → Option DEnv := fun d ρ => match d with
  | .tup [x, y] => (bName i x ρ).bind fun ρ1 => bName j y ρ1
  | _ => none
theorem Le.trans {ρ ρ1 ρ2 : DEnv} (a : Le ρ ρ1) (b : Le ρ1 ρ2) : Le ρ ρ2 := ⟨a.1.trans b.1, fun i d h => b.2 i d (a.2 i d h)⟩
theorem gd_pair {K : PySem.W.Frag} (i j : Nat) : GD K (gTup K 2 (gCons (gName i) (gCons (gName j) gNil))) (bPair i j) := by
  intro x d σ G H ρ ρ1 Q er r e k
  unfold bPair at e
  split at e
  · obtain ⟨ρ2, e1, e2⟩ := Option.bind_eq_some_iff.mp e
    obtain ⟨p, vs, rfl, q, rr⟩ := rep_tup r
    obtain ⟨v1, t1, rfl, r1, rr⟩ := repL_cons rr
    obtain ⟨v2, t2, rfl, r2, rr⟩ := repL_cons rr
    cases repL_nil rr
    refine ⟨p, [v1, v2], rfl, same_tup er.sub q, rfl, v1, [v2], rfl, ?_⟩
    refine gd_name i er r1 e1 fun σ1 er1 l1 => ⟨v2, [], rfl, ?_⟩
    exact gd_name j er1 r2 e2 fun σ2 er2 l2 => ⟨rfl, k σ2 er2 (l1.trans l2)⟩
  · cases e
def fComp (nl : Nat) (ix : List Nat) (fi : DEnv → Option (List D)) (bnd : D → DEnv → Option DEnv) (ft : DEnv → Option Bool) (fe : DEnv → Option D) : DEnv → Option D := fun ρ => (fi ρ).bind fun ds => if ds.length ≤ big then (compF bnd ft fe (capD nl ix ρ) ds).map D.lst else none
theorem comp_w {K : PySem.W.Frag} {J : It} {ds : List D} {G1 H1 : Hp} {g : TG} {bnd : D → DEnv → Option DEnv} {ft : DEnv → Option Bool} {fe : DEnv → Option D} {ρ0 : DEnv} {σ0 : St} {Fin : List V → Hp → Prop} {total : List D}
    (hb : ds.length ≤ big) (itd : ItD K J ds G1) (hg : GD K g bnd) (er : OR K [] G1 H1 σ0 ρ0) (e : compF bnd ft fe ρ0 ds = some total) (k : ∀ ys G' H', Ext G1 H1 G' H' → RepL K G' total ys → Fin ys H') :
    CompW J g (ttD K [] ft) (tD K [] fe) Fin σ0 H1 := by
  refine ⟨fun i m ys σ' H' => i ≤ ds.length ∧ m = ds.length - i ∧ ∃ G' ws r, Ext G1 H1 G' H' ∧ OR K [] G' H' σ' ρ0 ∧ RepL K G' ws ys ∧ ws.length ≤ i ∧ compF bnd ft fe ρ0 (ds.drop i) = some r ∧ ws ++ r = total,
    ⟨ds.length, Nat.zero_le _, rfl, G1, [], total, Ext.refl er.sub, er, RepL.nil, Nat.zero_le _, e, rfl⟩, ?_⟩
  rintro i m ys σ' H' ⟨hi, rfl, G', ws, r, x, er', rw', hw, er2, et⟩
  refine ⟨big_line (by rw [← repL_length rw']; omega), ?_⟩
  obtain ⟨hgo, hstop⟩ := itd i G' H' x.g er'.sub
  by_cases hlt : i < ds.length
  · right
    have hd : ds[i]? = some ds[i] := by simp [hlt]
    have hdrop : ds.drop i = ds[i] :: ds.drop (i + 1) := List.drop_eq_getElem_cons hlt
    rw [hdrop] at er2
    unfold compF at er2
    obtain ⟨ρ1, e1, er2⟩ := Option.bind_eq_some_iff.mp er2
    obtain ⟨b, e2, er2⟩ := Option.bind_eq_some_iff.mp er2
    obtain ⟨go, yl⟩ := hgo _ hd
    refine ⟨go, fun v H2 hy => ?_⟩
    obtain ⟨G2, x2, r2⟩ := yl v H2 hy
    refine hg (er'.grow x2) r2 e1 fun σ1 er1 le1 => ⟨G2, ρ1, b, er1, e2, fun G3 H3 x3 => ?_⟩
    have er3 := er1.grow x3
    have x13 : Ext G1 H1 G3 H3 := x.trans (x2.trans x3)
    cases b with
    | true =>
      obtain ⟨y, e3, er2⟩ := Option.bind_eq_some_iff.mp er2
      obtain ⟨zs, e4, rfl⟩ := Option.map_eq_some_iff.mp er2
      refine iteT ⟨G3, ρ1, y, er3, e3, fun u G4 H4 x4 r4 => ⟨_, ?_, hlt, rfl, G4, ws ++ [y], zs, x13.trans x4, (er3.grow x4).le le1, ?_, ?_, e4, ?_⟩⟩
      · omega
      · exact repL_append (((rw'.mono x2.g).mono x3.g).mono x4.g) (RepL.cons r4 RepL.nil)
      · rw [List.length_append, List.length_singleton]; omega
      · rw [List.append_assoc]; exact et
    | false =>
      refine iteF ⟨_, ?_, hlt, rfl, G3, ws, r, x13, er3.le le1, (rw'.mono x2.g).mono x3.g, by omega, er2, et⟩
      omega
  · left
    have hil : i = ds.length := by omega
    refine ⟨hstop hil, k ys G' H' x ?_⟩
    rw [hil, List.drop_length] at er2
    cases er2
    rw [List.append_nil] at et
    subst et
    exact rw'
theorem de_comp {elt iter : Expr} {ifs : List Expr} {scope : Scope} {NL NF : List Str} {ix : List Nat} {g : TG} {bnd : D → DEnv → Option DEnv} {fe : DEnv → Option D}
    (hkind : scope.kind = .function) (hcell : ∀ y ∈ scope.names, y.2 ≠ .cell) (hnames : ∀ y ∈ scope.names, y.2 = .local → scope.names.lookup y.1 = some .local)
    (hfree : ∀ y ∈ scope.names, y.2 = .free → (X.env.kindOf y.1 = some .cell ∨ X.env.kindOf y.1 = some .free)) (cap : CapN X scope NF ix) (hix : ∀ j ∈ ix, j ∉ own) (calm : X.calm = true) (hit : DI X own tg iter fi)
    (hg : ∀ cl C s₂ H₂ fp, PG (cxC X scope cl C (NL ++ NF) s₂ H₂ fp) tg g) (hgd : GD X.K g bnd) (hi : ∀ cl C s₂ H₂ fp, PIfs (cxC X scope cl C (NL ++ NF) s₂ H₂ fp) ifs (ttD X.K [] ft)) (he : ∀ cl C s₂ H₂ fp, DE (cxC X scope cl C (NL ++ NF) s₂ H₂ fp) [] elt fe)
    (hs : ∀ x, foldedSetIterable iter X.env x = pure x := by intro _; rfl) :
    DE X own (.ListComp elt [⟨tg, iter, ifs, 0⟩] scope pos) (fComp NL.length ix fi bnd ft fe) :=
  de_of (pe_comp hkind hcell hnames hfree cap calm hit.ok hg hi (fun x0 x1 x2 x3 x4 => (he x0 x1 x2 x3 x4).ok) hs) fun σ G H Q ρ d er e k => by
    obtain ⟨ds, e1, e⟩ := Option.bind_eq_some_iff.mp e
    split at e
    · rename_i hb
      obtain ⟨total, e2, rfl⟩ := Option.map_eq_some_iff.mp e
      refine ⟨G, ρ, ds, er, e1, fun J G1 H1 x1 itd => ?_⟩
      refine comp_w hb itd hgd ((er.grow x1).cap NL.length ix hix) e2 fun ys G' H' x r p hp => ?_
      exact k _ _ _ (x1.trans (x.trans (Ext.laid x.sub hp))) (rep_new_lst (x.sub.free hp) r)
    · cases e
theorem pifs0 : PIfs X [] (ttD X.K [] fun _ => some true) := fun pins s σ H Q I ⟨G, ρ, b, er, e, k⟩ => by
  cases e
  exact pifs_nil pins s σ H Q I (k G H (Ext.refl er.sub))
theorem pifs1 (h : DT X [] c ft) : PIfs X [c] (ttD X.K [] ft) := pifs_one h.ok
end
end DL
set_option maxRecDepth 100000
set_option maxHeartbeats 4000000
namespace DL
open PySem PySem.Spec PyProof.Rows L2
inductive Fl where
  | nx (ρ : DEnv) | rt (d : D)
structure SR (K : PySem.W.Frag) (own : List Nat) (G0 F0 G H : Hp) (σ : St) (ρ : DEnv) : Prop where
  or : OR K own G H σ ρ
  ext : Ext G0 F0 G H
  fr : ∀ i ∈ own, ∀ p, σ[i]? = some (some (V.ref p)) → F0 p = none
def tsD (K : PySem.W.Frag) (G0 F0 : Hp) (own own' : List Nat) (f : DEnv → Option Fl) : TS := fun E σ H => ∃ G ρ r, SR K own G0 F0 G H σ ρ ∧ f ρ = some r ∧ match r with
  | .nx ρ' => ∀ G' σ' H', SR K own' G0 F0 G' H' σ' ρ' → E.nx σ' H'
  | .rt d => ∀ v G' H', Ext G0 F0 G' H' → Rep K G' d v → E.rt v H'
structure DS (X : Cx) (own own' : List Nat) (st : Stmt) (f : DEnv → Option Fl) : Prop where
  ok : ∀ G0 F0, PS X st (tsD X.K G0 F0 own own' f)
structure DSs (X : Cx) (own own' : List Nat) (st : List Stmt) (f : DEnv → Option Fl) : Prop where
  ok : ∀ G0 F0, PSs X st (tsD X.K G0 F0 own own' f)
section
variable {X : Cx} {own own1 own2 : List Nat} {st : Stmt} {rest body : List Stmt} {e a b c tg : Expr} {es : List Expr} {pos p2 : Pos} {f fa fb fc : DEnv → Option D} {fs fi : DEnv → Option (List D)} {ft fu : DEnv → Option Bool} {q1 q2 q3 : DEnv → Option Fl}
theorem ds_of {t : TS} (h : PS X st t) (hw : ∀ G0 F0 E σ G H ρ r, SR X.K own G0 F0 G H σ ρ → q1 ρ = some r → (match r with
    | .nx ρ' => ∀ G' σ' H', SR X.K own1 G0 F0 G' H' σ' ρ' → E.nx σ' H'
    | .rt d => ∀ v G' H', Ext G0 F0 G' H' → Rep X.K G' d v → E.rt v H') → t E σ H) : DS X own own1 st q1 := ⟨fun G0 F0 pins s σ H E I ⟨G, ρ, r, er, e, k⟩ => h pins s σ H E I (hw G0 F0 E σ G H ρ r er e k)⟩
theorem SR.grow {K : PySem.W.Frag} {G0 F0 G H G' H' : Hp} {σ : St} {ρ : DEnv} (s : SR K own G0 F0 G H σ ρ) (x : Ext G H G' H') : SR K own G0 F0 G' H' σ ρ := ⟨s.or.grow x, s.ext.trans x, s.fr⟩
theorem SR.set {K : PySem.W.Frag} {G0 F0 G H : Hp} {σ : St} {ρ : DEnv} {i : Nat} {d : D} {v : V} (s : SR K own G0 F0 G H σ ρ) (hi : i ∉ own) (r : Rep K G d v) : SR K own G0 F0 G H (σ.set i (some v)) (ρ.set i (some d)) :=
  ⟨s.or.set hi r, s.ext, fun j hj p e => by
    have ne : i ≠ j := fun z => hi (z ▸ hj)
    rw [List.getElem?_set_ne ne] at e
    exact s.fr j hj p e⟩
def sNil : DEnv → Option Fl := fun ρ => some (.nx ρ)
def sSeq (q1 q2 : DEnv → Option Fl) : DEnv → Option Fl := fun ρ => (q1 ρ).bind fun r => match r with | .nx ρ' => q2 ρ' | .rt d => some (.rt d)
theorem dss_nil : DSs X own own [] sNil := ⟨fun G0 F0 pins s σ H E I ⟨G, ρ, r, er, e, k⟩ => by
  cases e
  exact pss_nil pins s σ H E I (k G σ H er)⟩
theorem dss_cons (h1 : DS X own own1 st q1) (h2 : DSs X own1 own2 rest q2) : DSs X own own2 (st :: rest) (sSeq q1 q2) := ⟨fun G0 F0 pins s σ H E I ⟨G, ρ, r, er, e, k⟩ => by
  refine pss_cons (h1.ok G0 F0) (h2.ok G0 F0) pins s σ H E I ?_
  obtain ⟨r1, e1, e2⟩ := Option.bind_eq_some_iff.mp e
  refine ⟨G, ρ, r1, er, e1, ?_⟩
  cases r1 with
  | nx ρ' => exact fun G' σ' H' er' => ⟨G', ρ', r, er', e2, k⟩
  | rt d =>
    cases e2
    exact k⟩
theorem dss_one (h1 : DS X own own1 st q1) : DSs X own own1 [st] q1 := ⟨fun G0 F0 => pss_one (h1.ok G0 F0)⟩
theorem SR.free {K : PySem.W.Frag} {G0 F0 G H : Hp} {σ : St} {ρ : DEnv} (s : SR K own G0 F0 G H σ ρ) : SR K [] G0 F0 (relG own σ G H) H σ ρ := by
  have o := s.or.full
  refine ⟨o, ⟨fun b u e => ?_, s.ext.h, o.sub, fun b h => ?_⟩, fun i hi => (by cases hi)⟩
  · have z := s.ext.g b u e
    unfold relG
    split
    · exact s.or.sub b u z
    · exact z
  · unfold relG at h
    split at h
    · rename_i hb
      obtain ⟨i, hi, q⟩ := mem_roots hb
      exact .inr (s.fr i hi b q)
    · exact s.ext.new b h
theorem dss_free (h : DSs X [] own2 rest q1) : DSs X own own2 rest q1 := ⟨fun G0 F0 pins s σ H E I ⟨G, ρ, r, er, e, k⟩ => h.ok G0 F0 pins s σ H E I ⟨_, ρ, r, er.free, e, k⟩⟩
def sRet (f : DEnv → Option D) : DEnv → Option Fl := fun ρ => (f ρ).map Fl.rt
theorem ds_ret (h : DE X own e f) : DS X own own1 (.Return (some e) pos) (sRet f) := ds_of (ps_ret h.ok) fun G0 F0 E σ G H ρ r er e' k => by
  obtain ⟨d, e1, rfl⟩ := Option.map_eq_some_iff.mp e'
  exact ⟨G, ρ, d, er.or, e1, fun v G' H' x r => k v G' H' (er.ext.trans x) r⟩
def sSet (i : Nat) (f : DEnv → Option D) : DEnv → Option Fl := fun ρ => (f ρ).map fun d => .nx (ρ.set i (some d))
theorem ds_set {i : Nat} {x : Str} (hN : X.N.Nodup) (hi : X.N[i]? = some x) (hx : Loc X.env.scope x) (h : DE X own e f) (hio : i ∉ own := by decide) (hs : swapsWith e (some (.Name x p2)) pos.line X.env = pure false := by rfl)
    (hf : X.fn x = true ∨ X.env.scope.names.lookup x = some .local := by first | exact .inl rfl | exact .inr rfl | assumption) : DS X own own (.Assign [.Name x p2] e pos) (sSet i f) :=
  ds_of (ps_set hN hi hx h.ok hs hf) fun G0 F0 E σ G H ρ r er e' k => by
    obtain ⟨d, e1, rfl⟩ := Option.map_eq_some_iff.mp e'
    exact ⟨G, ρ, d, er.or, e1, fun v G' H' x r => k G' _ H' ((er.grow x).set hio r)⟩
def sIf (ft : DEnv → Option Bool) (q1 q2 : DEnv → Option Fl) : DEnv → Option Fl := fun ρ => (ft ρ).bind fun b => if b then q1 ρ else q2 ρ
theorem ds_if {b1 b2 : List Stmt} (hc : DT X own c ft) (h1 : DSs X own own1 b1 q1) (h2 : DSs X own own1 b2 q2) : DS X own own1 (.If c b1 b2 pos) (sIf ft q1 q2) := ⟨fun G0 F0 pins s σ H E I ⟨G, ρ, r, er, e', k⟩ => by
  refine ps_if hc.ok (h1.ok G0 F0) (h2.ok G0 F0) pins s σ H E I ?_
  obtain ⟨x, e1, e2⟩ := Option.bind_eq_some_iff.mp e'
  refine ⟨G, ρ, x, er.or, e1, fun G' H' x' => ?_⟩
  cases x with
  | true => exact iteT ⟨G', ρ, r, er.grow x', e2, k⟩
  | false => exact iteF ⟨G', ρ, r, er.grow x', e2, k⟩⟩
def sNew (i : Nat) (fs : DEnv → Option (List D)) : DEnv → Option Fl := fun ρ => (fs ρ).bind fun ds => if ds.length ≤ 1000 then some (.nx (ρ.set i (some (.lst ds)))) else none
theorem SR.ownNew {K : PySem.W.Frag} {G0 F0 G H : Hp} {σ : St} {ρ : DEnv} {i : Nat} {ds : List D} {vs : List V} {p : Addr} (s : SR K own G0 F0 G H σ ρ) (hi : i ∉ own) (hl : i < σ.length) (r : RepL K G ds vs) (hp : H p = none) :
    SR K (i :: own) G0 F0 G (upd H p (.lst vs)) (σ.set i (some (V.ref p))) (ρ.set i (some (.lst ds))) := by
  have hiρ : i < ρ.length := by rw [s.or.len]; exact hl
  have subU : Same H (upd H p (.lst vs)) := same_upd hp
  have ne : ∀ {b u}, H b = some u → b ≠ p := fun e => ne_of_none e hp
  refine ⟨⟨s.or.sub.trans subU, by rw [List.length_set, List.length_set, s.or.len], fun j d q n => ?_, fun j hj => ?_, fun j hj k hk hne a b e1 e2 => ?_⟩, ⟨s.ext.g, s.ext.h.trans subU, s.or.sub.trans subU, s.ext.new⟩, fun j hj a e => ?_⟩
  · have hji : i ≠ j := fun z => n (by rw [z]; exact List.mem_cons_self)
    rw [List.getElem?_set_ne hji] at q ⊢
    exact s.or.at_ j d q fun z => n (List.mem_cons_of_mem _ z)
  · rcases List.mem_cons.mp hj with z | z
    · subst z
      exact ⟨p, ds, vs, by rw [List.getElem?_set_self hiρ], by rw [List.getElem?_set_self hl], upd_same, s.or.sub.free hp, r⟩
    · have hji : i ≠ j := fun y => hi (y ▸ z)
      obtain ⟨a, ds', vs', h1, h2, h3, h4, h5⟩ := s.or.own_ j z
      exact ⟨a, ds', vs', by rw [List.getElem?_set_ne hji]; exact h1, by rw [List.getElem?_set_ne hji]; exact h2, by rw [upd_ne (ne h3)]; exact h3, h4, h5⟩
  · have look : ∀ {j : Nat} {a : Addr}, j ∈ i :: own → (σ.set i (some (V.ref p)))[j]? = some (some (V.ref a)) → (j = i ∧ a = p) ∨ (j ≠ i ∧ j ∈ own ∧ σ[j]? = some (some (V.ref a)) ∧ a ≠ p) := fun {j a} hj e => by
      by_cases hji : i = j
      · subst hji
        rw [List.getElem?_set_self hl] at e
        cases e
        exact .inl ⟨rfl, rfl⟩
      · rw [List.getElem?_set_ne hji] at e
        have hm : j ∈ own := (List.mem_cons.mp hj).elim (fun z => absurd z.symm hji) id
        obtain ⟨a', ds', vs', h1, h2, h3, h4, h5⟩ := s.or.own_ j hm
        rw [e] at h2
        cases h2
        exact .inr ⟨Ne.symm hji, hm, e, ne h3⟩
    rcases look hj e1 with ⟨z1, z2⟩ | ⟨z1, z2, z3, z4⟩
    · rcases look hk e2 with ⟨y1, y2⟩ | ⟨y1, y2, y3, y4⟩
      · exact absurd (z1.trans y1.symm) hne
      · rw [z2]; exact Ne.symm y4
    · rcases look hk e2 with ⟨y1, y2⟩ | ⟨y1, y2, y3, y4⟩
      · rw [y2]; exact z4
      · exact s.or.dis j z2 k y2 hne a b z3 y3
  · by_cases hji : i = j
    · subst hji
      rw [List.getElem?_set_self hl] at e
      cases e
      exact s.ext.h.free hp
    · rw [List.getElem?_set_ne hji] at e
      exact s.fr j ((List.mem_cons.mp hj).elim (fun z => absurd z.symm hji) id) a e
theorem ds_new {i : Nat} {x : Str} {p3 p4 : Pos} (hN : X.N.Nodup) (hi : X.N[i]? = some x) (hx : Loc X.env.scope x) (h : DA X own es fs) (hio : i ∉ own := by decide)
    (hf : X.fn x = true ∨ X.env.scope.names.lookup x = some .local := by first | exact .inl rfl | exact .inr rfl | assumption) (hs' : swapsWith (.List es p2) (some (.Name x p3)) p4.line X.env = pure false := by rfl) : DS X own (i :: own) (.Assign [.Name x p3] (.List es p2) p4) (sNew i fs) := ⟨fun G0 F0 pins s σ H E I ⟨G, ρ, r, er, e', k⟩ => by
    refine ps_set hN hi hx (pe_lst h.ok) hs' hf pins s σ H E I ?_
    have hl : i < σ.length := by rw [I.len]; exact (List.getElem?_eq_some_iff.mp hi).1
    obtain ⟨ds, e1, e2⟩ := Option.bind_eq_some_iff.mp e'
    split at e2
    · rename_i hsz
      cases e2
      exact ⟨G, ρ, ds, er.or, e1, fun vs G' H' x r => ⟨by rw [← repL_length r]; exact line1000 hsz, fun p hp => k G' _ _ ((er.grow x).ownNew hio hl r hp)⟩⟩
    · cases e2⟩
theorem SR.upd {K : PySem.W.Frag} {G0 F0 G H : Hp} {σ : St} {ρ : DEnv} {i : Nat} {ds : List D} {vs : List V} {p : Addr} (s : SR K own G0 F0 G H σ ρ) (hi : i ∈ own) (hp : σ[i]? = some (some (V.ref p))) (r : RepL K G ds vs) :
    SR K own G0 F0 G (upd H p (.lst vs)) σ (ρ.set i (some (.lst ds))) := by
  obtain ⟨p', ds', vs', h1, h2, h3, h4, h5⟩ := s.or.own_ i hi
  rw [hp] at h2
  cases h2
  have hG : ∀ {b u}, G b = some u → b ≠ p := fun e => ne_of_none e h4
  have hF : ∀ {b u}, F0 b = some u → b ≠ p := fun e => ne_of_none e (s.fr i hi p hp)
  have hiρ : i < ρ.length := (List.getElem?_eq_some_iff.mp h1).1
  refine ⟨⟨fun b u e => by rw [upd_ne (hG e)]; exact s.or.sub b u e, by rw [List.length_set, s.or.len], fun j d q n => ?_, fun j hj => ?_, s.or.dis⟩, ⟨s.ext.g, fun b u e => by rw [upd_ne (hF e)]; exact s.ext.h b u e, fun b u e => by rw [upd_ne (hG e)]; exact s.or.sub b u e, s.ext.new⟩, s.fr⟩
  · have hji : i ≠ j := fun z => n (z ▸ hi)
    rw [List.getElem?_set_ne hji] at q
    exact s.or.at_ j d q n
  · by_cases hji : i = j
    · subst hji
      exact ⟨p, ds, vs, by rw [List.getElem?_set_self hiρ], hp, upd_same, h4, r⟩
    · obtain ⟨a, ds2, vs2, g1, g2, g3, g4, g5⟩ := s.or.own_ j hj
      have ne : a ≠ p := Ne.symm (s.or.dis i hi j hj hji p a hp g2)
      exact ⟨a, ds2, vs2, by rw [List.getElem?_set_ne hji]; exact g1, g2, by rw [upd_ne ne]; exact g3, g4, g5⟩
def sApp (i : Nat) (f : DEnv → Option D) : DEnv → Option Fl := fun ρ => (f ρ).bind fun d => match ρ[i]? with | some (some (.lst ds)) => if ds.length < big then some (.nx (ρ.set i (some (.lst (ds ++ [d]))))) else none | _ => none
theorem ds_append {i : Nat} {x : Str} {apos cpos npos : Pos} (hio : i ∈ own := by decide) (h : DE X own e f) (hN : X.N[i]? = some x := by rfl) (hv : Vis X.env.scope x := by first | exact Or.inl rfl | exact Or.inr (Or.inl rfl) | exact Or.inr (Or.inr rfl))
    (hd : (x == ("__debug__" : Str)) = false := by decide) (hcd : (x == ("__classdict__" : Str)) = false := by decide)
    (hst : starEach (e :: []) X.env = (false, eval e X.env) :: starEach [] X.env := by rfl) (hfew : ((backTo cpos (starEach [e] X.env)).all (fun x => !x.1) && (backToKw cpos (keywordEach [] X.env)).all (fun x => x.1.isSome)
      && decide ([e].length + ([] : List Keyword).length + (if ([] : List Keyword).isEmpty then 0 else 1) < 30)) = true := by rfl) (hline : (apos.endLine == cpos.line) = true := by rfl)
    (hbase : attributeBase (.Name x npos) "append" X.env (eval (.Name x npos) X.env) = eval (.Name x npos) X.env := by rfl) (hplain : (backTo cpos (starEach [] X.env)).any (·.1) = false := by rfl) (hsw : swapsWith (.Call (.Attribute (.Name x npos) "append" apos) [e] [] cpos) none pos.line X.env = pure false := by rfl) :
    DS X own own (.Expr (.Call (.Attribute (.Name x npos) "append" apos) [e] [] cpos) pos) (sApp i f) := ⟨fun G0 F0 pins s σ H E I ⟨G, ρ, r, er, e', k⟩ => by
    refine ps_expr (pe_bm PySem.F.plainAttrs_list PySem.F.slot_list_append PySem.F.type_list_append mt_append (pe_var hN hv hd hcd) (pa_cons h.ok pa_nil hst) hbase hfew hline hst hplain) hsw pins s σ H E I ?_
    obtain ⟨d, e1, e2⟩ := Option.bind_eq_some_iff.mp e'
    obtain ⟨p, ds, vs, h1, h2, h3, h4, h5⟩ := er.or.own_ i hio
    rw [h1] at e2
    simp only at e2
    split at e2
    · rename_i hl
      cases e2
      refine ⟨V.ref p, h2, .inl ⟨rfl, vs, SqL.of h3⟩, G, ρ, d, er.or, e1, fun v G' H' x r => ⟨p, vs, v, rfl, rfl, x.h _ _ h3, ?_, ?_⟩⟩
      · rw [← repL_length h5]; exact Nat.lt_of_lt_of_le hl (big_line (Nat.le_refl _))
      · exact k G' σ _ ((er.grow x).upd hio h2 (repL_append (h5.mono x.g) (RepL.cons r RepL.nil)))
    · cases e2⟩
def sPut (i : Nat) (fx fv : DEnv → Option D) : DEnv → Option Fl := fun ρ => (fv ρ).bind fun d => (fx ρ).bind fun x => match x, ρ[i]? with | .int j, some (some (.lst ds)) => (ixN ds.length j).map fun k => .nx (ρ.set i (some (.lst (ds.set k d)))) | _, _ => none
theorem ds_put {i : Nat} {x : Str} {ix : Expr} {fx fv : DEnv → Option D} {npos : Pos} (hio : i ∈ own := by decide) (hx : DE X own ix fx) (hv : DE X own e fv) (hN : X.N[i]? = some x := by rfl) (hvis : Vis X.env.scope x := by first | exact Or.inl rfl | exact Or.inr (Or.inl rfl) | exact Or.inr (Or.inr rfl))
    (hd : (x == ("__debug__" : Str)) = false := by decide) (hcd : (x == ("__classdict__" : Str)) = false := by decide)
    (ha : ∀ v, assign (.Subscript (.Name x npos) ix p2) X.env v = (do
      let ov ← holding [v] (eval (.Name x npos) X.env)
      let iv ← holding [v, ov] (eval ix X.env)
      standAt p2
      holding [v, ov, iv] (setItem ov iv v)
      release [v, ov, iv] []) := by intro _; rfl)
    (hs : swapsWithSole [.Subscript (.Name x npos) ix p2] e pos.line X.env = pure false := by rfl) (hw : swappedStores [.Subscript (.Name x npos) ix p2] e X.env = pure none := by rfl)
    (h1 : (assignEach [.Subscript (.Name x npos) ix p2] X.env).map (·.2) = [assign (.Subscript (.Name x npos) ix p2) X.env] := by rfl) :
    DS X own own (.Assign [.Subscript (.Name x npos) ix p2] e pos) (sPut i fx fv) := ⟨fun G0 F0 pins s σ H E I ⟨G, ρ, r, er, e', k⟩ => by
    refine ps_asg hv.ok (pg_sub (pe_var hN hvis hd hcd) hx.ok set_list ha) hs hw h1 pins s σ H E I ?_
    obtain ⟨d, e1, e2⟩ := Option.bind_eq_some_iff.mp e'
    obtain ⟨z, e3, e4⟩ := Option.bind_eq_some_iff.mp e2
    obtain ⟨p, ds, vs, h1, h2, h3, h4, h5⟩ := er.or.own_ i hio
    rw [h1] at e4
    cases z <;> first | cases e4 | skip
    rename_i j
    obtain ⟨n, e5, rfl⟩ := Option.map_eq_some_iff.mp (show (ixN ds.length j).map _ = some r from e4)
    refine ⟨G, ρ, d, er.or, e1, fun v G' H' x r => ⟨V.ref p, h2, G', ρ, .int j, er.or.grow x, e3, fun iv G2 H2 x2 r2 => ?_⟩⟩
    cases rep_int r2
    refine ⟨p, vs, j, n, rfl, rfl, (x.trans x2).h _ _ h3, by rw [← repL_length h5]; exact e5, ?_⟩
    exact k G2 σ _ (((er.grow x).grow x2).upd hio h2 (repL_set (r.mono x2.g) n ((h5.mono x.g).mono x2.g)))⟩
def fIxO (i : Nat) (fx : DEnv → Option D) : DEnv → Option D := fun ρ => (fx ρ).bind fun x => match x, ρ[i]? with | .int j, some (some (.lst ds)) => atI ds j | _, _ => none
theorem de_ixO {i : Nat} {x : Str} {ix : Expr} {fx : DEnv → Option D} {npos : Pos} (hio : i ∈ own := by decide) (hx : DE X own ix fx) (hs : PlainIx ix) (hN : X.N[i]? = some x := by rfl) (hvis : Vis X.env.scope x := by first | exact Or.inl rfl | exact Or.inr (Or.inl rfl) | exact Or.inr (Or.inr rfl))
    (hd : (x == ("__debug__" : Str)) = false := by decide) (hcd : (x == ("__classdict__" : Str)) = false := by decide) : DE X own (.Subscript (.Name x npos) ix pos) (fIxO i fx) :=
  de_of (pe_ix ix_list (pe_var hN hvis hd hcd) hx.ok hs) fun σ G H Q ρ d er e k => by
    obtain ⟨z, e3, e4⟩ := Option.bind_eq_some_iff.mp e
    obtain ⟨p, ds, vs, h1, h2, h3, h4, h5⟩ := er.own_ i hio
    rw [h1] at e4
    cases z <;> first | cases e4 | skip
    rename_i j
    have e5 : atI ds j = some d := e4
    obtain ⟨v, e6, r6⟩ := repL_atI h5 e5
    refine ⟨V.ref p, h2, G, ρ, .int j, er, e3, fun iv G2 H2 x2 r2 => ?_⟩
    cases rep_int r2
    exact ⟨p, vs, j, v, rfl, rfl, SqL.of (x2.h _ _ h3), e6, k v G2 H2 x2 (r6.mono x2.g)⟩
def loopF (bnd : D → DEnv → Option DEnv) (q : DEnv → Option Fl) : List D → DEnv → Option Fl
  | [], ρ => some (.nx ρ)
  | d :: ds, ρ => (bnd d ρ).bind fun ρ1 => (q ρ1).bind fun r => match r with | .nx ρ2 => loopF bnd q ds ρ2 | .rt d => some (.rt d)
def sFor (fi : DEnv → Option (List D)) (bnd : D → DEnv → Option DEnv) (q : DEnv → Option Fl) : DEnv → Option Fl := fun ρ => (fi ρ).bind fun ds => loopF bnd q ds ρ
def both (F0 G1 : Hp) : Hp := fun b => match F0 b with | some o => some o | none => G1 b
theorem SR.base {K : PySem.W.Frag} {G0 F0 G1 H1 : Hp} {σ : St} {ρ : DEnv} (s : SR K own G0 F0 G1 H1 σ ρ) : SR K own G1 (both F0 G1) G1 H1 σ ρ := by
  refine ⟨s.or, ⟨Same.refl _, fun b u e => ?_, s.or.sub, fun b h => .inl h⟩, fun i hi p e => ?_⟩
  · unfold both at e
    split at e
    · rename_i o ho
      cases e
      exact s.ext.h b _ ho
    · exact s.or.sub b u e
  · obtain ⟨p', ds, vs, h1, h2, h3, h4, h5⟩ := s.or.own_ i hi
    rw [e] at h2
    cases h2
    unfold both
    rw [s.fr i hi p e]
    exact h4
theorem ext_unbase {G0 F0 G1 H1 G' H' : Hp} (x : Ext G0 F0 G1 H1) (y : Ext G1 (both F0 G1) G' H') : Ext G0 F0 G' H' := by
  refine ⟨x.g.trans y.g, fun b u e => y.h b u ?_, y.sub, fun b h => ?_⟩
  · unfold both; rw [e]
  · rcases y.new b h with z | z
    · exact x.new b z
    · right
      unfold both at z
      split at z
      · cases z
      · assumption
theorem SR.unbase {K : PySem.W.Frag} {G0 F0 G1 H1 G' H' : Hp} {σ : St} {ρ : DEnv} (x : Ext G0 F0 G1 H1) (s : SR K own G1 (both F0 G1) G' H' σ ρ) : SR K own G0 F0 G' H' σ ρ :=
  ⟨s.or, ext_unbase x s.ext, fun i hi p e => by
    have z := s.fr i hi p e
    unfold both at z
    split at z
    · cases z
    · assumption⟩
def bSet (i : Nat) : D → DEnv → Option DEnv := fun d ρ => some (ρ.set i (some d))
theorem ds_for {iter : Expr} {i : Nat} {x : Str} (hp : PassesOwn (model X.prog X.w) X.A X.env X.xe) (hc : X.calm = true) (hit : DI X own (.Name x p2) iter fi) (hN : X.N.Nodup) (hi : X.N[i]? = some x) (hx : Loc X.env.scope x) (hb : DSs X own own body q1) (hio : i ∉ own := by decide)
    (hf : X.fn x = true ∨ X.env.scope.names.lookup x = some .local := by first | exact .inl rfl | exact .inr rfl | assumption) (hs : ∀ x, foldedSetIterable iter X.env x = pure x := by intro _; rfl) :
    DS X own own (.For (.Name x p2) iter body [] pos) (sFor fi (bSet i) q1) := ⟨fun G0 F0 pins s σ H E I ⟨G, ρ, r, er, e', k⟩ => by
  obtain ⟨ds, e1, e2⟩ := Option.bind_eq_some_iff.mp e'
  have hb' : PSs X body (fun E σ H => ∃ A B, tsD X.K A B own own q1 E σ H) := fun pins s σ H E I ⟨A, B, h⟩ => hb.ok A B pins s σ H E I h
  refine ps_for hp hc hit.ok (pg_name hN hi hx hf) hb' hs pins s σ H E I ⟨G, ρ, ds, er.or, e1, fun J G1 H1 x1 itd => ?_⟩
  have x01 : Ext G0 F0 G1 H1 := er.ext.trans x1
  refine ⟨fun n m σ' H' => n ≤ ds.length ∧ m = ds.length - n ∧ ∃ G' ρ', SR X.K own G1 (both F0 G1) G' H' σ' ρ' ∧ loopF (bSet i) q1 (ds.drop n) ρ' = some r,
    ⟨ds.length, Nat.zero_le _, rfl, G1, ρ, (er.grow x1).base, e2⟩, ?_⟩
  rintro n m σ' H' ⟨hn, rfl, G', ρ', er', e3⟩
  obtain ⟨hgo, hstop⟩ := itd n G' H' er'.ext.g er'.or.sub
  by_cases hlt : n < ds.length
  · right
    have hd : ds[n]? = some ds[n] := by simp [hlt]
    have hdrop : ds.drop n = ds[n] :: ds.drop (n + 1) := List.drop_eq_getElem_cons hlt
    rw [hdrop] at e3
    unfold loopF at e3
    obtain ⟨ρ1, e4, e3⟩ := Option.bind_eq_some_iff.mp e3
    obtain ⟨r1, e5, e3⟩ := Option.bind_eq_some_iff.mp e3
    cases e4
    obtain ⟨go, yl⟩ := hgo _ hd
    refine ⟨go, fun σ2 H2 => ∃ G2 ρ2, SR X.K own G1 (both F0 G1) G2 H2 σ2 ρ2 ∧ loopF (bSet i) q1 (ds.drop (n + 1)) ρ2 = some r, fun σ2 H2 ⟨G2, ρ2, h1, h2⟩ => ⟨ds.length - (n + 1), by omega, hlt, rfl, G2, ρ2, h1, h2⟩, fun v H2 hy => ?_⟩
    obtain ⟨G2, x2, r2⟩ := yl v H2 hy
    refine ⟨G1, both F0 G1, G2, _, r1, (er'.grow x2).set hio r2, e5, ?_⟩
    cases r1 with
    | nx ρ2 => exact fun G3 σ3 H3 er3 => ⟨G3, ρ2, er3, e3⟩
    | rt d =>
      cases e3
      exact fun w G3 H3 x3 r3 => k w G3 H3 (ext_unbase x01 x3) r3
  · left
    have hil : n = ds.length := by omega
    refine ⟨hstop hil, ?_⟩
    rw [hil, List.drop_length] at e3
    cases e3
    exact k G' σ' H' (SR.unbase x01 er')⟩
theorem start_or {K : PySem.W.Frag} {G H : Hp} {N : List Str} {ds : List D} {vs : List V} (s : Same G H) (r : RepL K G ds vs) : OR K [] G H (L2.start N vs) (ds.map some ++ List.replicate (N.length - ds.length) none) := by
  have hl := repL_length r
  unfold L2.start
  refine ⟨s, by simp [hl], fun i d q _ => ?_, fun i hi => (by cases hi), fun i hi => (by cases hi)⟩
  by_cases hi : i < ds.length
  · rw [List.getElem?_append_left (by simpa using hi), List.getElem?_map] at q
    obtain ⟨d', h1, h2⟩ := Option.map_eq_some_iff.mp q
    cases h2
    obtain ⟨v, h3, h4⟩ := repL_get r h1
    exact ⟨v, by rw [List.getElem?_append_left (by simpa [← hl] using hi), List.getElem?_map, h3]; rfl, h4⟩
  · rw [List.getElem?_append_right (by simpa using hi), List.getElem?_replicate] at q
    split at q <;> cases q
end
theorem def_ok {P : Program} {w : World} {K : PySem.W.Frag} {mg : Str → Option Value} {base : Heap} {x qual : Str} {st : Stmt} {fad : Addr} {fd : FuncData} {N ps : List Str} {k : Nat} {own' : List Nat} {q : DEnv → Option Fl} {g : List D → Option D}
    (F : Fun K x qual st fad fd) (S : FnScope N ps (defScope st))
    (hb : ∀ (cdv : Value) (A : Around) (outer : List Env) (s : Shared) (H : Hp) (E : XK), Room k (A.deeper (envOfC qual (defScope st) s.heap.objs.size fad cdv)) → DSs (cxOf CX0 P w K mg base N qual (defScope st) fad cdv A outer s H E).nox [] own' (defBody st) q)
    (hg : ∀ ds d, ds.length = ps.length → g ds = some d → q (ds.map some ++ List.replicate (N.length - ds.length) none) = some (.rt d) ∨ ∃ ρ, q (ds.map some ++ List.replicate (N.length - ds.length) none) = some (.nx ρ) ∧ d = .non) :
    FnOk P w K mg base CX0 (k + 1) fad fd ps (spF K ps.length g) := by
  refine F.ok S (fun vs H Q E h => h.1) (fun cdv A outer s H vs Q E hr h => ?_)
  obtain ⟨hl, G, ds, d, sub, r, e, kk⟩ := h
  refine ⟨_, (hb cdv A outer s H E hr).ok G H, ?_⟩
  have er := start_or (N := N) sub r
  rcases hg ds d (by rw [repL_length r]; exact hl) e with z | ⟨ρ, z, rfl⟩
  · exact ⟨G, _, _, ⟨er, Ext.refl sub, fun i hi => (by cases hi)⟩, z, fun v G' H' x r => kk v G' H' x r⟩
  · exact ⟨G, _, _, ⟨er, Ext.refl sub, fun i hi => (by cases hi)⟩, z, fun G' σ' H' er' => kk _ G' H' er'.ext Rep.non⟩
end DL
set_option maxRecDepth 100000
set_option maxHeartbeats 4000000
namespace DL
open PySem PySem.Spec PyProof.Rows L2
section
variable {X : Cx} {own : List Nat} {e a b c o i tg : Expr} {es : List Expr} {pos p2 : Pos} {f fa fb fc fe : DEnv → Option D} {fs fi : DEnv → Option (List D)} {ft fu : DEnv → Option Bool}
def fChain (g g' : D → D → Option D) (fa fb fc : DEnv → Option D) : DEnv → Option D := fun ρ => (fa ρ).bind fun x => (fb ρ).bind fun y => (g x y).bind fun z => match z with
  | .bl true => (fc ρ).bind fun u => g' y u
  | .bl false => some (.bl false)
  | _ => none
theorem de_chain {op op' : CmpOp} {r r' : R2} {g g' : D → D → Option D} (ho : OpR X (compareOp op) r) (hg : OpD X.K r g) (ho' : OpR X (compareOp op') r') (hg' : OpD X.K r' g') (ha : DE X own a fa) (hb : DE X own b fb) (hc : DE X own c fc)
    (hm : lastMarks [op, op'] [b, c] = false := by with_unfolding_all rfl) : DE X own (.Compare a [op, op'] [b, c] pos) (fChain g g' fa fb fc) :=
  de_of (pe_chain ho ho' ha.ok hb.ok hc.ok hm) fun σ G H Q ρ d er e k => by
    obtain ⟨x, e1, e⟩ := Option.bind_eq_some_iff.mp e
    obtain ⟨y, e2, e⟩ := Option.bind_eq_some_iff.mp e
    obtain ⟨z, e3, e⟩ := Option.bind_eq_some_iff.mp e
    refine ⟨G, ρ, x, er, e1, fun v G1 H1 s1 r1 => ⟨G1, ρ, y, er.grow s1, e2, fun w G2 H2 s2 r2 => hg s2.sub (r1.mono s2.g) r2 e3 fun t G3 H3 s3 r3 => ?_⟩⟩
    have s13 := s1.trans (s2.trans s3)
    cases z <;> first | cases e | skip
    rename_i bb
    cases rep_bl r3
    refine ⟨bb, rfl, ?_⟩
    cases bb with
    | true =>
      obtain ⟨u, e4, e⟩ := Option.bind_eq_some_iff.mp e
      exact iteT ⟨G3, ρ, u, er.grow s13, e4, fun q G4 H4 s4 r4 => hg' s4.sub ((r2.mono s3.g).mono s4.g) r4 e fun v G5 H5 s5 r5 => k v G5 H5 (s13.trans (s4.trans s5)) r5⟩
    | false =>
      cases e
      exact iteF (k _ G3 H3 s13 Rep.bl)
def fNeg (f : DEnv → Option D) : DEnv → Option D := fun ρ => (f ρ).bind fun d => match d with | .int i => some (.int (-i)) | _ => none
theorem de_neg (h : DE X own a fa) : DE X own (.UnaryOp .USub a pos) (fNeg fa) :=
  de_of (pe_un un_neg h.ok) fun σ G H Q ρ d er e k => by
    obtain ⟨x, e1, e⟩ := Option.bind_eq_some_iff.mp e
    cases x <;> first | cases e | skip
    refine ⟨G, ρ, _, er, e1, fun v G1 H1 s1 r1 => ?_⟩
    cases rep_int r1
    exact ⟨_, rfl, k _ G1 H1 s1 Rep.int⟩
def rMulS : R2 := fun x y H Q => ∃ z n, x = .str z ∧ y = .int n ∧ PySem.MulOk z n ∧ Q (.str (Txt.mul z n)) H
theorem op_mulS : OpR X (binaryOp .Mult) rMulS := by
  intro pins s σ H x y v u Q I rx ry h
  obtain ⟨z, n, rfl, rfl, hm, q⟩ := h
  obtain ⟨t, rfl⟩ := rx
  obtain ⟨t', rfl⟩ := ry
  exact SB.mul hm fun t' tk => ⟨.str _, H, I.tok _, ⟨_, rfl⟩, q⟩
def flatD : D → Bool
  | .non => true
  | .bl _ => true
  | .int _ => true
  | .str _ => true
  | _ => false
theorem flat_rep {K : PySem.W.Frag} {H : Hp} {d : D} {v : V} (h : flatD d = true) (r : Rep K H d v) : flatV v = true := by
  cases d <;> first
    | (cases h; done)
    | (cases rep_non r; rfl)
    | (cases rep_bl r; rfl)
    | (cases rep_int r; rfl)
    | (cases rep_str r; rfl)
theorem flat_eq {K : PySem.W.Frag} {H : Hp} {d d' : D} {v v' : V} (h : flatD d = true) (h' : flatD d' = true) (r : Rep K H d v) (r' : Rep K H d' v') : eqV v v' = eqD d d' := by
  cases d <;> first
    | (cases h; done)
    | skip
  all_goals (cases d' <;> first
    | (cases h'; done)
    | skip)
  all_goals first
    | (cases rep_non r)
    | (cases rep_bl r)
    | (cases rep_int r)
    | (cases rep_str r)
  all_goals first
    | (cases rep_non r')
    | (cases rep_bl r')
    | (cases rep_int r')
    | (cases rep_str r')
  all_goals simp [eqV, eqD]
theorem flat_all {K : PySem.W.Frag} {H : Hp} : ∀ {ds : List D} {vs : List V}, ds.all flatD = true → RepL K H ds vs → vs.all flatV = true
  | [], vs, _, r => by cases repL_nil r; rfl
  | d :: ds, vs, h, r => by
    obtain ⟨v, t, rfl, r1, r2⟩ := repL_cons r
    rw [List.all_cons, Bool.and_eq_true] at h
    rw [List.all_cons, Bool.and_eq_true]
    exact ⟨flat_rep h.1 r1, flat_all h.2 r2⟩
theorem flat_any {K : PySem.W.Frag} {H : Hp} {x : D} {v : V} (hx : flatD x = true) (rx : Rep K H x v) : ∀ {ds : List D} {vs : List V}, ds.all flatD = true → RepL K H ds vs → inV v vs = ds.any fun d => eqD d x
  | [], vs, _, r => by cases repL_nil r; rfl
  | d :: ds, vs, h, r => by
    obtain ⟨w, t, rfl, r1, r2⟩ := repL_cons r
    rw [List.all_cons, Bool.and_eq_true] at h
    have ih := flat_any hx rx h.2 r2
    unfold inV at ih ⊢
    rw [List.any_cons, List.any_cons, ih, flat_eq h.1 hx r1 rx]
def itemsD : D → Option (List D)
  | .tup xs => some xs
  | .lst xs => some xs
  | _ => none
def inFD (neg : Bool) : D → D → Option D := fun x y => (itemsD y).bind fun ds => if flatD x && ds.all flatD then some (.bl (if neg then !(ds.any fun d => eqD d x) else ds.any fun d => eqD d x)) else none
theorem od_in {K : PySem.W.Frag} {neg : Bool} : OpD K (rIn K neg) (inFD neg) := by
  intro x y dx dy d G H Q sub rx ry e k
  obtain ⟨ds, e1, e⟩ := Option.bind_eq_some_iff.mp e
  split at e
  · rename_i h
    rw [Bool.and_eq_true] at h
    cases e
    have fin : ∀ {p : Addr} {vs : List V}, (SqL K H p vs ∨ SqT K H p vs) → RepL K G ds vs → y = V.ref p → rIn K neg x y H Q := fun {p vs} q r ey => by
      refine ⟨p, vs, ey, q, flat_rep h.1 rx, flat_all h.2 r, ?_⟩
      rw [flat_any h.1 rx h.2 r]
      exact k _ G H (Ext.refl sub) Rep.bl
    cases dy <;> first | (cases e1; done) | skip
    · cases e1
      obtain ⟨p, vs, ey, q, r⟩ := rep_tup ry
      exact fin (.inr (same_tup sub q)) r ey
    · cases e1
      obtain ⟨p, vs, ey, q, r⟩ := rep_lst ry
      exact fin (.inl (sub.seq q)) r ey
  · cases e
structure GDict (X : Cx) (x : Str) (tab : List (Str × D)) : Prop where
  ex : ∃ (ad : Addr) (kvs : List (L2.Key × V)) (vs : List (L2.Key × Value)), X.mg x = some (.ref ad) ∧ (ad == sysModules) = false ∧ (∀ h : Heap, X.K.In h → h.DictOf (mixKind X.prog X.w) ad vs) ∧ KV kvs vs ∧
    (∀ y, valV kvs (Sum.inr y) = none ↔ tab.lookup y = none) ∧ ∀ y d, tab.lookup y = some d → ∃ v, valV kvs (Sum.inr y) = some v ∧ ∀ H, Rep X.K H d v
def gInD (tab : List (Str × D)) (neg : Bool) (f : DEnv → Option D) : DEnv → Option D := fun ρ => (f ρ).bind fun d => match d with | .str y => some (.bl (if neg then !(tab.lookup y).isSome else (tab.lookup y).isSome)) | _ => none
def gGetD (tab : List (Str × D)) (f : DEnv → Option D) : DEnv → Option D := fun ρ => (f ρ).bind fun d => match d with | .str y => tab.lookup y | _ => none
theorem de_gget {x : Str} {tab : List (Str × D)} (hd : GDict X x tab) (hg : Gl X x) (ha : DE X own a fa) (hs' : NoSl a) (hdb : (x == ("__debug__" : Str)) = false := by decide) : DE X own (.Subscript (.Name x p2) a pos) (gGetD tab fa) := by
  obtain ⟨ad, kvs, vs, hmg, hsys, hdo, rel, hn, hs⟩ := hd.ex
  refine de_of (t := fun σ H Q => tD X.K own fa σ H fun v H1 => ∃ y u, v = .str y ∧ valV kvs (Sum.inr y) = some u ∧ Q u H1) (fun pins s σ H Q I h => ?_) fun σ G H Q ρ d er e k => ?_
  · refine subD_of PySem.F.slot_dict_getitem.lookup hs' (ld_glob I hg hmg (thn (ha.ok pins s σ H _ I h) fun v s1 ⟨y, H1, I1, r1, z, u, hz, hu, q1⟩ => ?_) hdb)
    subst hz
    have dd := hdo _ I1.kIn
    obtain ⟨w', hw, rw'⟩ := RelO.some_of (v := u) (o := valueAt vs (Sum.inr z)) (by rw [← hu]; exact rel.val (Sum.inr z))
    have ty : s1.TypeIs (.ref ad) "dict" := by
      obtain ⟨o, es, ep, h1, h2, _⟩ := dd
      exact ⟨o, h1, h2.1⟩
    exact ⟨ty, wpAny_getItem_of (knd := mixKind X.prog X.w) (k := Sum.inr z) (kV_is (k := Sum.inr z) r1) dd.mapOf hw ⟨u, H1, I1.tok _, rw', q1⟩⟩
  · obtain ⟨x, e1, e⟩ := Option.bind_eq_some_iff.mp e
    cases x <;> first | (cases e; done) | skip
    rename_i y
    obtain ⟨v, hv, hr⟩ := hs y d e
    refine ⟨G, ρ, _, er, e1, fun w G1 H1 s1 r1 => ?_⟩
    cases rep_str r1
    exact ⟨y, v, rfl, hv, k _ G1 H1 s1 (hr G1)⟩
def Ok (P : Program) (w : World) (K : PySem.W.Frag) (mg : Str → Option Value) (base : Heap) (k : Nat) (x : Str) (ps : List Str) (g : List D → Option D) : Prop :=
  ∃ fad fd, FnOk P w K mg base CX0 k fad fd ps (spF K ps.length g) ∧ Binds K fd ps [] ∧ mg x = some (.ref fad) ∧ PySem.W.keepIn K (.ref fad) = true
theorem de_callO {k : Nat} {ps : List Str} {g : List D → Option D} {x : Str} {p : Pos} (F : Ok X.prog X.w X.K X.mg X.base k x ps g) (hr : Room k X.A) (hg : Gl X x) (ha : DA X own (e :: es) fs) (hlen : ∀ ρ ds, fs ρ = some ds → ds.length = ps.length)
    (hn : (e :: es).length = ps.length := by rfl) (hdb : (x == ("__debug__" : Str)) = false := by decide) (he : starEach (e :: es) X.env = (false, eval e X.env) :: starEach es X.env := by rfl) (hpl : (backTo pos (starEach es X.env)).any (·.1) = false := by rfl) :
    DE X own (.Call (.Name x p) (e :: es) [] pos) (f1 g fs) := by
  obtain ⟨fad, fd, h1, h2, h3, h4⟩ := F
  exact de_call h1 hr hg h3 h4 h2 ha hn hlen hdb he hpl
def FnTab (P : Program) (w : World) (K : PySem.W.Frag) (mg : Str → Option Value) (base : Heap) (k n : Nat) (tab : Addr → Option (List D → Option D)) : Prop :=
  ∀ fad g, tab fad = some g → ∃ fd ps, ps.length = n ∧ FnOk P w K mg base CX0 k fad fd ps (spF K ps.length g) ∧ Binds K fd ps [] ∧ PySem.W.keepIn K (.ref fad) = true
def fCallV (tab : Addr → Option (List D → Option D)) (i : Nat) (fs : DEnv → Option (List D)) : DEnv → Option D := fun ρ => (fVar i ρ).bind fun d => match d with | .fn fad => (tab fad).bind fun g => (fs ρ).bind g | _ => none
theorem de_callV {k n j : Nat} {tab : Addr → Option (List D → Option D)} {x : Str} {p : Pos} (F : FnTab X.prog X.w X.K X.mg X.base k n tab) (hr : Room k X.A) (ha : DA X own (e :: es) fs) (hlen : ∀ ρ ds, fs ρ = some ds → ds.length = n)
    (hj : j ∉ own := by decide) (hN : X.N[j]? = some x := by rfl) (hv : Vis X.env.scope x := by first | exact Or.inl rfl | exact Or.inr (Or.inl rfl) | exact Or.inr (Or.inr rfl)) (hdb : (x == ("__debug__" : Str)) = false := by decide) (hcd : (x == ("__classdict__" : Str)) = false := by decide)
    (he : starEach (e :: es) X.env = (false, eval e X.env) :: starEach es X.env := by rfl) (hpl : (backTo pos (starEach es X.env)).any (·.1) = false := by rfl) :
    DE X own (.Call (.Name x p) (e :: es) [] pos) (fCallV tab j fs) := ⟨by
  intro pins s σ H Q I h
  obtain ⟨G, ρ, d, er, e1, kk⟩ := h
  obtain ⟨z, e2, e1⟩ := Option.bind_eq_some_iff.mp e1
  cases z <;> first | (cases e1; done) | skip
  rename_i fad
  obtain ⟨g, e3, e1⟩ := Option.bind_eq_some_iff.mp e1
  obtain ⟨ds, e4, e1⟩ := Option.bind_eq_some_iff.mp e1
  obtain ⟨fd, ps, hps, F1, F2, F3⟩ := F fad g e3
  obtain ⟨v, h1, h2⟩ := er.at_ j _ (join_some e2) hj
  cases rep_fn h2
  refine wpAny_Call_Name_kw (thn (pe_var hN hv hdb hcd pins s σ H (fun u H' => u = .ref fad ∧ H' = H) I ⟨_, h1, rfl, rfl⟩) fun u s1 ⟨y, H1, I1, r1, hy, hH⟩ => ?_)
  subst hy hH
  cases r1
  refine PySem.W.callWith_K (h₀ := X.base) I1.ok.mod.kin F3 (thn (ha.ok pos pins s1 σ H1 _ I1 ⟨G, ρ, ds, er, e4, fun vs G2 H2 s2 r2 => (?_ : (fun vs H2 => spF X.K ps.length g vs H2 Q E0) vs H2)⟩) fun us s2 ⟨vs, H2, I2, r2, q2⟩ => ⟨I2.kIn, ?_⟩) he hpl
  · exact ⟨by rw [← repL_length r2, hlen ρ ds e4, hps], G2, ds, d, s2.sub, r2, e1, fun v G3 H3 s3 r3 => kk v G3 H3 (s2.trans s3) r3⟩
  · exact run_fn (dvs := []) (ds := []) F1 hr F2 .nil pass0 I2 r2 (by rw [List.append_nil]; exact q2)⟩
def Its (x : Str) : It := ⟨fun i _ => i < x.cps.size, fun i H v H' => H' = H ∧ ∃ c, x.cps[i]? = some c ∧ v = .str ⟨#[c]⟩, fun i _ => x.cps.size ≤ i⟩
def iStr (f : DEnv → Option D) : DEnv → Option (List D) := fun ρ => (f ρ).bind fun d => match d with | .str x => some (x.cps.toList.map fun c => .str ⟨#[c]⟩) | _ => none
theorem itd_str {K : PySem.W.Frag} {G1 : Hp} {x : Str} : ItD K (Its x) (x.cps.toList.map fun c => .str ⟨#[c]⟩) G1 := by
  intro i G' H' s1 s2
  refine ⟨fun d hd => ?_, fun hi => by rw [List.length_map, Array.length_toList] at hi; exact Nat.le_of_eq hi.symm⟩
  rw [List.getElem?_map] at hd
  obtain ⟨c, hc, rfl⟩ := Option.map_eq_some_iff.mp hd
  rw [Array.getElem?_toList] at hc
  refine ⟨(Array.getElem?_eq_some_iff.mp hc).1, fun v H'' hy => ?_⟩
  obtain ⟨e1, c', hc', e2⟩ := hy
  subst e1
  rw [hc] at hc'
  cases hc'
  subst e2
  exact ⟨G', Ext.refl s2, Rep.str⟩
theorem turn_str {P : Program} {w : World} {K : PySem.W.Frag} {x : Str} {y : Str} {py : Pos} {it : Addr} {St' : Nat → Heap → Prop} (hd : ∀ i h, St' i h → ∃ o, h.get? it = some o ∧ ∀ v, o.data ≠ .cell v)
    (W : ∀ A' : Around, A'.handled = none → Walks P w A' it [it] [it] x.cps.size (SignAt x) St') (hself : ∀ (A : Around) (i : Nat) (s : Shared) (Q : Value → Shared → Prop) (E : Value → Shared → Prop), St' i s.heap → Q (.ref it) s → wpAny (model P w) A (pyIter (.ref it)) Q E s) :
    Turn P w K (.Name y py) (Its x) [it] it (fun i h => i ≤ x.cps.size ∧ St' i h) where
  mem := by simp
  obj := fun i h st b hb => by
    have e : b = it := by simpa using hb
    subst e
    exact hd i h st.2
  keep := fun i h h' st k => ⟨st.1, by
    have Wd := W callerA rfl
    exact Wd.frame i h h' st.2 fun b hb o e => k b hb o e⟩
  item := by
    intro X hP hw hK hc i pins s σ H E I hf st hg
    subst hP hw hK
    obtain ⟨f0, f1, f2, f3, f4, f5⟩ := hf it (by simp)
    refine (W X.A (I.ok.hd hc)).item i s _ _ hg st.2 fun v h' tk hv st' kk => ?_
    obtain ⟨cc, u, hcc, rfl⟩ := hv
    have I1 : Inv X pins σ H { s with heap := h', toks := tk } := I.turned (fun b o hb e => kk b o (by simpa using hb) e) f0 f1 f3 f4 f5
    exact ⟨_, rfl, wpAny_pure ⟨.str ⟨#[cc]⟩, H, I1, ⟨u, rfl⟩, ⟨rfl, cc, hcc, rfl⟩, ⟨hg, st'⟩, fun b hb => (hf b hb).1⟩⟩
  done := by
    intro X hP hw hK hc i pins s σ H E I hf st hg
    subst hP hw hK
    obtain ⟨f0, f1, f2, f3, f4, f5⟩ := hf it (by simp)
    have hi : i = x.cps.size := Nat.le_antisymm st.1 hg
    subst hi
    exact (W X.A (I.ok.hd hc)).done s _ _ st.2 fun h' tk kk => ⟨rfl, I.turned (fun b o hb e => kk b o (by simpa using hb) e) f0 f1 f3 f4 f5⟩
  self := fun A i s Q E st h => hself A i s Q E st.2 h
end
end DL
set_option maxRecDepth 100000
set_option maxHeartbeats 4000000
namespace DL
open PySem PySem.Spec PyProof.Rows L2
section
variable {X : Cx} {own : List Nat} {e a b c o i tg : Expr} {es : List Expr} {pos p2 : Pos} {f fa fb fc fe : DEnv → Option D} {fs fi : DEnv → Option (List D)} {ft fu : DEnv → Option Bool}
theorem pi_str {y : Str} {py : Pos} {tl : TE} (hl : PE X a tl) : PI X (.Name y py) a (fun σ H R => tl σ H fun v H1 => ∃ x, v = .str x ∧ R (Its x) H1) := by
  intro pins s σ H R I h
  refine thn (hl pins s σ H _ I h) fun v s1 ⟨u, H1, I1, r1, x, hx, q⟩ => ?_
  subst hx
  obtain ⟨t, rfl⟩ := r1
  have cell0 : ∀ (ty : String) (i : Nat) (h : Heap), h.IsStrIter s1.heap.objs.size ty x t i → ∃ o, h.get? s1.heap.objs.size = some o ∧ ∀ v, o.data ≠ .cell v := fun ty i h st => by
    obtain ⟨o, e, c, d⟩ := st
    exact ⟨o, e, fun v z => by rw [d] at z; cases z⟩
  have fin : ∀ (ob : Obj) (St' : Nat → Heap → Prop), Turn X.prog X.w X.K (.Name y py) (Its x) [s1.heap.objs.size] s1.heap.objs.size (fun i h => i ≤ x.cps.size ∧ St' i h) → St' 0 (s1.heap.push ob) →
      PIE X pins σ (.Name y py) R (.ref s1.heap.objs.size) { s1 with heap := s1.heap.push ob } := fun ob St' T st => by
    refine ⟨s1.heap.objs.size, [s1.heap.objs.size], _, _, H1, rfl, I1.kept (t' := s1.toks) fun b o e => Heap.get?_push_of_some _ e, T, ⟨Nat.zero_le _, st⟩, fun b hb => ?_, q⟩
    have e : b = s1.heap.objs.size := by simpa using hb
    subst e
    exact I1.fpOk (Nat.le_refl _) (I1.hok.fresh (Nat.le_refl _))
  cases ha : x.cps.all (· < 128) with
  | false =>
    exact wpAny_pyIter_wide ha (fin _ _ (turn_str (fun i h st => cell0 _ i h st) (fun A' hA => Walks.strWide hA _ x t) fun A i s Q E st h => wpAny_pyIter_striter_wide st h) ⟨_, Heap.get?_push_size _ rfl, rfl, rfl⟩)
  | true =>
    exact wpAny_pyIter_ascii ha (fin _ _ (turn_str (fun i h st => cell0 _ i h st) (fun A' hA => Walks.strAscii hA _ x t) fun A i s Q E st h => wpAny_pyIter_striter_ascii st h) ⟨_, Heap.get?_push_size _ rfl, rfl, rfl⟩)
theorem di_str {y : Str} {py : Pos} (h : DE X own a fa) : DI X own (.Name y py) a (iStr fa) := di_of (pi_str h.ok) fun σ G H R ρ ds er e k => by
  obtain ⟨d, e1, e2⟩ := Option.bind_eq_some_iff.mp e
  cases d with
  | str x =>
    cases e2
    refine ⟨G, ρ, _, er, e1, fun v G1 H1 s1 r1 => ?_⟩
    cases rep_str r1
    exact ⟨x, rfl, k _ G1 H1 s1 itd_str⟩
  | _ => cases e2
theorem vals_strs : ∀ {ys : List Str} {us : List Value}, Vals (ys.map V.str) us → StrsAre us ys
  | [], _, .nil => .nil
  | y :: ys, _, .cons r t => by
    obtain ⟨k, rfl⟩ := r
    exact .cons y k (vals_strs t)
def rJoin (K : PySem.W.Frag) : V → List V → Hp → VK → Prop := fun x vs H Q => ∃ (z : Str) (p : Addr) (ys : List Str), x = .str z ∧ vs = [.ref p] ∧ SqL K H p (ys.map V.str) ∧ (ys.map (·.length)).sum + ys.length * z.length ≤ 16777216 ∧ Q (.str (Txt.join z ys)) H
theorem mt_join : MtR X "str.join" (rJoin X.K) := by
  intro pins s σ H x xs v us Q I rx r h
  obtain ⟨z, p, ys, rfl, rfl, hq, hz, q⟩ := h
  obtain ⟨t, rfl⟩ := rx
  obtain ⟨u, rfl, r1⟩ := vals1 r
  cases r1
  obtain ⟨its, rv, pl, _⟩ := I.list hq
  exact join_list pl.isList (by simpa using vals_strs rv) hz fun t' k => ⟨.str _, H, I.tok _, ⟨_, rfl⟩, q⟩
def strsD : List D → Option (List Str)
  | [] => some []
  | .str x :: r => (strsD r).map (x :: ·)
  | _ => none
theorem rep_strs {K : PySem.W.Frag} {H : Hp} : ∀ {ds : List D} {vs : List V} {ys : List Str}, RepL K H ds vs → strsD ds = some ys → vs = ys.map V.str
  | [], vs, ys, r, e => by cases repL_nil r; cases e; rfl
  | d :: ds, vs, ys, r, e => by
    obtain ⟨v, t, rfl, r1, r2⟩ := repL_cons r
    cases d <;> first | (cases e; done) | skip
    obtain ⟨ys', e1, rfl⟩ := Option.map_eq_some_iff.mp e
    cases rep_str r1
    rw [rep_strs r2 e1]
    rfl
def joinD : D → D → Option D
  | .str z, .lst xs => (strsD xs).bind fun ys => if (ys.map (·.length)).sum + ys.length * z.length ≤ big then some (.str (Txt.join z ys)) else none
  | _, _ => none
def fJoin (fo fa : DEnv → Option D) : DEnv → Option D := fun ρ => (fo ρ).bind fun x => (fa ρ).bind fun y => joinD x y
theorem de_join {fo : DEnv → Option D} {apos cpos : Pos} (ho : DE X own o fo) (ha : DE X own a fa)
    (hbase : attributeBase o "join" X.env (eval o X.env) = eval o X.env := by rfl)
    (hfew : ((backTo cpos (starEach [a] X.env)).all (fun x => !x.1) && (backToKw cpos (keywordEach [] X.env)).all (fun x => x.1.isSome)
      && decide ([a].length + ([] : List Keyword).length + (if ([] : List Keyword).isEmpty then 0 else 1) < 30)) = true := by rfl)
    (hline : (apos.endLine == cpos.line) = true := by rfl) (hs : starEach (a :: []) X.env = (false, eval a X.env) :: starEach [] X.env := by rfl) (hplain : (backTo cpos (starEach [] X.env)).any (·.1) = false := by rfl) :
    DE X own (.Call (.Attribute o "join" apos) [a] [] cpos) (fJoin fo fa) :=
  de_of (pe_bm PySem.F.plainAttrs_str PySem.F.slot_str_join PySem.F.type_str_join mt_join ho.ok (pa_cons ha.ok pa_nil hs) hbase hfew hline hs hplain) fun σ G H Q ρ d er e k => by
    obtain ⟨x, e1, e⟩ := Option.bind_eq_some_iff.mp e
    obtain ⟨y, e2, e⟩ := Option.bind_eq_some_iff.mp e
    unfold joinD at e
    split at e
    · obtain ⟨ys, e3, e⟩ := Option.bind_eq_some_iff.mp e
      split at e
      · rename_i hl
        cases e
        refine ⟨G, ρ, _, er, e1, fun v G1 H1 s1 r1 => ?_⟩
        cases rep_str r1
        refine ⟨rfl, G1, ρ, _, er.grow s1, e2, fun w G2 H2 s2 r2 => ?_⟩
        obtain ⟨p, vs, rfl, q, rr⟩ := rep_lst r2
        have := rep_strs rr e3
        subst this
        exact ⟨_, p, ys, rfl, rfl, s2.sub.seq q, Nat.le_trans hl (by decide), k _ G2 H2 (s1.trans s2) Rep.str⟩
      · cases e
    · cases e
end
section
variable {prog : Program} {w : World} {A : Around} {E : Value → Shared → Prop} {s : Shared}
theorem nextTup {jt tt : Addr} {n : Nat} {xs : Array Value} {v : Value} {Q : Value → Shared → Prop} (g1 : s.heap.IsTupleIter jt tt n) (g2 : s.heap.IsTuple tt xs) (g3 : xs[n]? = some v)
    (k : ∀ h', h'.IsTupleIter jt tt (n + 1) → Heap.SameBut jt s.heap h' → Q v { s with heap := h' }) : wpAny (model prog w) A (Builtin.SmallTypes.nextOf (.ref jt)) Q E s := by
  obtain ⟨ob, eo, ec, ed⟩ := id g1
  obtain ⟨ot, eot, _, nt, edt⟩ := g2
  unfold Builtin.SmallTypes.nextOf
  refine wpAny_bind (wpAny_callSpecial?_slot (name := Str.ofString "__next__") g1.typeIs F.slot_tuple_iterator_next (wpAny_call_entry F.slot_tuple_iterator_next g1.typeIs F.entry_tuple_iterator_next ?_ (F.args_tuple_iterator_next_1 _)))
  show wpAny _ _ (field (.ref jt) 0 >>= _) _ _ s
  refine wpAny_bind (wpAny_field eo ed (x := .ref tt) rfl ?_)
  show wpAny _ _ (if (Value.ref tt == Value.none) = true then _ else _) _ _ s
  rw [if_neg (show ¬ ((Value.ref tt == Value.none) = true) from Bool.false_ne_true)]
  show wpAny _ _ (field (.ref jt) 1 >>= _) _ _ s
  refine wpAny_bind (wpAny_field eo ed (x := .int n 0) rfl ?_)
  show wpAny _ _ (seqItems? (.ref tt) >>= _) _ _ s
  refine wpAny_bind (wpAny_seqItems eot edt ?_)
  simp only [Int.toNat_natCast, g3]
  refine wpAny_bind (wpAny_setField eo ed (by simp) (wpAny_pure ⟨v, rfl, wpAny_pure (k _ ?_ (Heap.SameBut.update ..))⟩))
  exact ⟨_, Heap.get?_update_self _ eo (Obj.isFreed_of_fields (Obj.data_mapFields ed _)), (Obj.cls_mapFields ..).trans ec, by rw [Obj.data_mapFields ed]; simp [rawInt]⟩
theorem nextTupEnd {jt tt : Addr} {n : Nat} {xs : Array Value} {Q : Value → Shared → Prop} (hh : A.handled = none) (g1 : s.heap.IsTupleIter jt tt n) (g2 : s.heap.IsTuple tt xs) (g3 : xs[n]? = none)
    (k : ∀ h' e, Heap.ExtBut jt s.heap h' → (∃ o, h'.get? e = some o ∧ o.cls = .type "StopIteration") → E (.ref e) { s with heap := h' }) : wpAny (model prog w) A (Builtin.SmallTypes.nextOf (.ref jt)) Q E s := by
  obtain ⟨ob, eo, ec, ed⟩ := id g1
  obtain ⟨ot, eot, _, nt, edt⟩ := g2
  unfold Builtin.SmallTypes.nextOf
  refine wpAny_bind (wpAny_callSpecial?_slot (name := Str.ofString "__next__") g1.typeIs F.slot_tuple_iterator_next (wpAny_call_entry F.slot_tuple_iterator_next g1.typeIs F.entry_tuple_iterator_next ?_ (F.args_tuple_iterator_next_1 _)))
  show wpAny _ _ (field (.ref jt) 0 >>= _) _ _ s
  refine wpAny_bind (wpAny_field eo ed (x := .ref tt) rfl ?_)
  show wpAny _ _ (if (Value.ref tt == Value.none) = true then _ else _) _ _ s
  rw [if_neg (show ¬ ((Value.ref tt == Value.none) = true) from Bool.false_ne_true)]
  show wpAny _ _ (field (.ref jt) 1 >>= _) _ _ s
  refine wpAny_bind (wpAny_field eo ed (x := .int n 0) rfl ?_)
  show wpAny _ _ (seqItems? (.ref tt) >>= _) _ _ s
  refine wpAny_bind (wpAny_seqItems eot edt ?_)
  simp only [Int.toNat_natCast, g3]
  refine wpAny_bind (wpAny_rule (wpAny_bind (wpAny_setField eo ed (by simp) ?_)))
  show wpAny _ _ (newExc (.type "StopIteration") [] >>= _) _ _ _
  refine wpAny_bind ?_
  simp only [newExc, newTuple]
  refine wpAny_bind (wpAny_newObj_type ?_ (by size_fits))
  refine wpAny_bind (m := firstArgMember _ _) (wpAny_of_eq (a := Value.none) (by first | rfl | (simp only [firstArgMember]; rfl)) ?_)
  refine wpAny_newObj_type ?_ (by size_fits)
  simp only [raiseNew]
  refine wpAny_bind (wpAny_handled ?_)
  first | rw [show A.in1.handled = none from hh] | rw [hh]
  refine wpAny_bind (wpAny_pure (wpAny_throw ?_))
  exact k _ _ (((Heap.SameBut.update ..).extBut.push _).push _) ⟨_, Heap.get?_push_size _ rfl, rfl⟩
theorem tupIter_ext {h h' : Heap} {aa bb tt : Addr} {n : Nat} (x : h.IsTupleIter aa tt n) (hs : Heap.ExtBut bb h h') (ne : aa ≠ bb) : h'.IsTupleIter aa tt n := let ⟨ob, eo, r⟩ := x; ⟨ob, hs _ _ ne eo, r⟩

theorem zipTupItem {z TI TO i1 i2 l1 l2 : Addr} {k1 k2 : Nat} {xs ys : Array Value} {x y p q : Value} {Q : Value → Shared → Prop} (D : ZipApart z TI TO i1 i2 l1 l2)
    (gz : IsZip s.heap z TI TO .none) (gI : IsPair s.heap TI (.ref i1) (.ref i2)) (gO : IsPair s.heap TO p q)
    (g1 : s.heap.IsTupleIter i1 l1 k1) (g2 : s.heap.IsTupleIter i2 l2 k2) (gl1 : s.heap.IsTuple l1 xs) (gl2 : s.heap.IsTuple l2 ys) (gx : xs[k1]? = some x) (gy : ys[k2]? = some y)
    (kk : ∀ h', IsZip h' z TI TO (rawInt s.heap.objs.size) → IsPair h' TO x y → h'.IsTupleIter i1 l1 (k1 + 1) → h'.IsTupleIter i2 l2 (k2 + 1) → IsPair h' s.heap.objs.size x y →
      (∀ c ob, c ≠ z → c ≠ TO → c ≠ i1 → c ≠ i2 → s.heap.get? c = some ob → h'.get? c = some ob) → Q (.ref s.heap.objs.size) { s with heap := h' }) :
    wpAny (model prog w) A (Builtin.«zip.__next__» ⟨[.ref z], []⟩) (fun fin s' => ∃ v, fin = .done (.ret v) ∧ Q v s') E s := by
  show wpAny _ _ (field (.ref z) 2 >>= _) _ _ _
  refine wpAny_bind (wpAny_field gz rfl (x := .bool false) rfl ?_)
  show wpAny _ _ (field (.ref z) 3 >>= _) _ _ _
  refine wpAny_bind (wpAny_field gz rfl (x := .ref TI) rfl ?_)
  refine wpAny_bind (wpAny_seqItems gI rfl ?_)
  show wpAny _ _ (Builtin.SmallTypes.ownedTupleIsFree (.ref z) >>= _) _ _ _
  refine wpAny_bind ?_
  unfold Builtin.SmallTypes.ownedTupleIsFree
  refine wpAny_bind (wpAny_field gz rfl (x := .none) rfl (wpAny_pure ?_))
  simp only [if_true]
  refine wpAny_bind (wpAny_rule ?_)
  refine wpAny_bind (wpAny_field gz rfl (x := .ref TO) rfl ?_)
  refine wpAny_bind (wpAny_setField_rec gz (by simp) fun h1 gz1 hs1 => ?_)
  replace gz1 : IsZip h1 z TI TO .ellipsis := gz1
  refine wpAny_bind ?_
  simp only [List.zipIdx_cons, List.zipIdx_nil, List.forIn_cons, List.forIn_nil]
  refine wpAny_bind (wpAny_bind (wpAny_onRaise ?_))
  show wpAny _ _ (Builtin.SmallTypes.nextOf (.ref i1) >>= _) _ _ _
  refine wpAny_bind (nextTup (tupIter_ext g1 hs1.extBut D.i1z) (gl1.extBut hs1.extBut D.l1z) gx fun h2 g12 hs2 => wpAny_pure ?_)
  have gO2 : IsPair h2 TO p q := hs2.extBut _ _ D.TOi1 (hs1.extBut _ _ D.TOz gO)
  refine wpAny_bind (wpAny_seqItems gO2 rfl ?_)
  refine wpAny_bind (wpAny_updateSeq_pair gO2 fun h3 gO3 hs3 => ?_)
  replace gO3 : IsPair h3 TO x q := gO3
  refine wpAny_bind (wpAny_letGo (wpAny_pure ?_))
  refine wpAny_bind (wpAny_bind (wpAny_onRaise ?_))
  show wpAny _ _ (Builtin.SmallTypes.nextOf (.ref i2) >>= _) _ _ _
  refine wpAny_bind (nextTup (tupIter_ext (tupIter_ext (tupIter_ext g2 hs1.extBut D.i2z) hs2.extBut D.i12.symm) hs3.extBut D.TOi2.symm) (((gl2.extBut hs1.extBut D.l2z).extBut hs2.extBut D.l2i1).extBut hs3.extBut D.l2TO) gy fun h4 g24 hs4 => wpAny_pure ?_)
  have gO4 : IsPair h4 TO x q := hs4.extBut _ _ D.TOi2 gO3
  refine wpAny_bind (wpAny_seqItems gO4 rfl ?_)
  refine wpAny_bind (wpAny_updateSeq_pair gO4 fun h5 gO5 hs5 => ?_)
  replace gO5 : IsPair h5 TO x y := gO5
  refine wpAny_bind (wpAny_letGo (wpAny_pure (wpAny_pure ?_)))
  refine wpAny_bind (wpAny_seqItems gO5 rfl ?_)
  refine wpAny_bind (wpAny_newTuple ?_)
  have sz : h5.objs.size = s.heap.objs.size := by rw [hs5.1, hs4.1, hs3.1, hs2.1, hs1.1]
  have gz5 : IsZip h5 z TI TO .ellipsis := hs5.extBut _ _ D.TOz.symm (hs4.extBut _ _ D.i2z.symm (hs3.extBut _ _ D.TOz.symm (hs2.extBut _ _ D.i1z.symm gz1)))
  have gk5 : ∀ c ob, c ≠ z → c ≠ TO → c ≠ i1 → c ≠ i2 → s.heap.get? c = some ob → h5.get? c = some ob := fun c ob c1 c2 c3 c4 e => hs5.extBut _ _ c2 (hs4.extBut _ _ c4 (hs3.extBut _ _ c2 (hs2.extBut _ _ c3 (hs1.extBut _ _ c1 e))))
  have g15 : h5.IsTupleIter i1 l1 (k1 + 1) := tupIter_ext (tupIter_ext (tupIter_ext g12 hs3.extBut D.TOi1.symm) hs4.extBut D.i12) hs5.extBut D.TOi1.symm
  have g25 : h5.IsTupleIter i2 l2 (k2 + 1) := tupIter_ext g24 hs5.extBut D.TOi2.symm
  have zlt : z < h5.objs.size := Heap.lt_size gz5
  show wpAny _ _ (Builtin.SmallTypes.ownedTupleHandOut (.ref z) (.ref h5.objs.size) >>= _) _ _ _
  refine wpAny_bind ?_
  unfold Builtin.SmallTypes.ownedTupleHandOut
  have gz6 : IsZip (h5.push { cls := .type "tuple", data := .seq #[x, y] }) z TI TO .ellipsis := Heap.get?_push_of_some _ gz5
  refine wpAny_bind (wpAny_setField_rec gz6 (by simp) fun h7 gz7 hs7 => ?_)
  replace gz7 : IsZip h7 z TI TO (rawInt h5.objs.size) := gz7
  refine wpAny_setField_rec gz7 (by simp) fun h8 gz8 hs8 => ?_
  replace gz8 : IsZip h8 z TI TO (rawInt h5.objs.size) := gz8
  have up : ∀ c ob, c ≠ z → h5.get? c = some ob → h8.get? c = some ob := fun c ob c1 e => hs8.extBut _ _ c1 (hs7.extBut _ _ c1 (Heap.get?_push_of_some _ e))
  have gT8 : IsPair h8 h5.objs.size x y := hs8.extBut _ _ (Nat.ne_of_gt zlt) (hs7.extBut _ _ (Nat.ne_of_gt zlt) (Heap.get?_push_size _ rfl))
  rw [sz] at gz8 gT8
  refine wpAny_pure ⟨_, rfl, ?_⟩
  show Q (.ref h5.objs.size) _
  rw [sz]
  obtain ⟨ob1, eo1, r1⟩ := g15
  obtain ⟨ob2, eo2, r2⟩ := g25
  exact kk h8 gz8 (up _ _ D.TOz gO5) ⟨ob1, up _ _ D.i1z eo1, r1⟩ ⟨ob2, up _ _ D.i2z eo2, r2⟩ gT8 fun c ob c1 c2 c3 c4 e => up c ob c1 (gk5 c ob c1 c2 c3 c4 e)
theorem zipTupEnd {z TI TO i1 i2 l1 l2 : Addr} {k1 k2 : Nat} {xs ys : Array Value} {p q : Value} {Q : Fin → Shared → Prop} (hh : A.handled = none) (D : ZipApart z TI TO i1 i2 l1 l2)
    (gz : IsZip s.heap z TI TO .none) (gI : IsPair s.heap TI (.ref i1) (.ref i2)) (gO : IsPair s.heap TO p q)
    (g1 : s.heap.IsTupleIter i1 l1 k1) (g2 : s.heap.IsTupleIter i2 l2 k2) (gl1 : s.heap.IsTuple l1 xs) (gl2 : s.heap.IsTuple l2 ys) (ge : xs[k1]? = none ∨ ys[k2]? = none)
    (kk : ∀ h' e, (∀ c ob, c ≠ z → c ≠ TO → c ≠ i1 → c ≠ i2 → s.heap.get? c = some ob → h'.get? c = some ob) → (∃ ob, h'.get? e = some ob ∧ ob.cls = .type "StopIteration") → E (.ref e) { s with heap := h' }) :
    wpAny (model prog w) A (Builtin.«zip.__next__» ⟨[.ref z], []⟩) Q E s := by
  show wpAny _ _ (field (.ref z) 2 >>= _) _ _ _
  refine wpAny_bind (wpAny_field gz rfl (x := .bool false) rfl ?_)
  show wpAny _ _ (field (.ref z) 3 >>= _) _ _ _
  refine wpAny_bind (wpAny_field gz rfl (x := .ref TI) rfl ?_)
  refine wpAny_bind (wpAny_seqItems gI rfl ?_)
  show wpAny _ _ (Builtin.SmallTypes.ownedTupleIsFree (.ref z) >>= _) _ _ _
  refine wpAny_bind ?_
  unfold Builtin.SmallTypes.ownedTupleIsFree
  refine wpAny_bind (wpAny_field gz rfl (x := .none) rfl (wpAny_pure ?_))
  simp only [if_true]
  refine wpAny_bind (wpAny_rule ?_)
  refine wpAny_bind (wpAny_field gz rfl (x := .ref TO) rfl ?_)
  refine wpAny_bind (wpAny_setField_rec gz (by simp) fun h1 gz1 hs1 => ?_)
  replace gz1 : IsZip h1 z TI TO .ellipsis := gz1
  refine wpAny_bind ?_
  simp only [List.zipIdx_cons, List.zipIdx_nil, List.forIn_cons, List.forIn_nil]
  refine wpAny_bind (wpAny_bind (wpAny_onRaise ?_))
  show wpAny _ _ (Builtin.SmallTypes.nextOf (.ref i1) >>= _) _ _ _
  cases gx : xs[k1]? with
  | none =>
    refine wpAny_bind (nextTupEnd hh (tupIter_ext g1 hs1.extBut D.i1z) (gl1.extBut hs1.extBut D.l1z) gx fun h2 e hs2 he => ?_)
    obtain ⟨oe, hoe, hce⟩ := he
    have gz2 : IsZip h2 z TI TO .ellipsis := hs2 _ _ D.i1z.symm gz1
    have hez : e ≠ z := fun x => by subst x; rw [gz2] at hoe; cases hoe; simp at hce
    refine wpAny_setField_rec gz2 (by simp) fun h3 _ hs3 => kk h3 e (fun c ob c1 _ c3 _ x => hs3.extBut _ _ c1 (hs2 _ _ c3 (hs1.extBut _ _ c1 x))) ⟨oe, hs3.extBut _ _ hez hoe, hce⟩
  | some x =>
    have gy : ys[k2]? = none := by
      rcases ge with h | h
      · rw [gx] at h; cases h
      · exact h
    refine wpAny_bind (nextTup (tupIter_ext g1 hs1.extBut D.i1z) (gl1.extBut hs1.extBut D.l1z) gx fun h2 g12 hs2 => wpAny_pure ?_)
    have gO2 : IsPair h2 TO p q := hs2.extBut _ _ D.TOi1 (hs1.extBut _ _ D.TOz gO)
    refine wpAny_bind (wpAny_seqItems gO2 rfl ?_)
    refine wpAny_bind (wpAny_updateSeq_pair gO2 fun h3 gO3 hs3 => ?_)
    refine wpAny_bind (wpAny_letGo (wpAny_pure ?_))
    refine wpAny_bind (wpAny_bind (wpAny_onRaise ?_))
    show wpAny _ _ (Builtin.SmallTypes.nextOf (.ref i2) >>= _) _ _ _
    refine wpAny_bind (nextTupEnd hh (tupIter_ext (tupIter_ext (tupIter_ext g2 hs1.extBut D.i2z) hs2.extBut D.i12.symm) hs3.extBut D.TOi2.symm) (((gl2.extBut hs1.extBut D.l2z).extBut hs2.extBut D.l2i1).extBut hs3.extBut D.l2TO) gy fun h4 e hs4 he => ?_)
    obtain ⟨oe, hoe, hce⟩ := he
    have gz4 : IsZip h4 z TI TO .ellipsis := hs4 _ _ D.i2z.symm (hs3.extBut _ _ D.TOz.symm (hs2.extBut _ _ D.i1z.symm gz1))
    have hez : e ≠ z := fun x => by subst x; rw [gz4] at hoe; cases hoe; simp at hce
    refine wpAny_setField_rec gz4 (by simp) fun h5 _ hs5 => kk h5 e (fun c ob c1 c2 c3 c4 x => hs5.extBut _ _ c1 (hs4 _ _ c4 (hs3.extBut _ _ c2 (hs2.extBut _ _ c3 (hs1.extBut _ _ c1 x))))) ⟨oe, hs5.extBut _ _ hez hoe, hce⟩
end
end DL
set_option maxRecDepth 100000
set_option maxHeartbeats 4000000
namespace DL
open PySem PySem.Spec PyProof.Rows L2
section
variable {prog : Program} {w : World} {A : Around} {E : Value → Shared → Prop} {s : Shared}
theorem pyNextZipT {z TI TO i1 i2 l1 l2 : Addr} {k1 k2 : Nat} {xs ys : Array Value} {x y p q : Value} {Q : Option Value → Shared → Prop} (D : ZipApart z TI TO i1 i2 l1 l2)
    (gz : IsZip s.heap z TI TO .none) (gI : IsPair s.heap TI (.ref i1) (.ref i2)) (gO : IsPair s.heap TO p q)
    (g1 : s.heap.IsTupleIter i1 l1 k1) (g2 : s.heap.IsTupleIter i2 l2 k2) (gl1 : s.heap.IsTuple l1 xs) (gl2 : s.heap.IsTuple l2 ys) (gx : xs[k1]? = some x) (gy : ys[k2]? = some y)
    (kk : ∀ h', IsZip h' z TI TO (rawInt s.heap.objs.size) → IsPair h' TO x y → h'.IsTupleIter i1 l1 (k1 + 1) → h'.IsTupleIter i2 l2 (k2 + 1) → IsPair h' s.heap.objs.size x y →
      (∀ c ob, c ≠ z → c ≠ TO → c ≠ i1 → c ≠ i2 → s.heap.get? c = some ob → h'.get? c = some ob) → Q (some (.ref s.heap.objs.size)) { s with heap := h' }) :
    wpAny (model prog w) A (pyNext (.ref z)) Q E s := by
  have gT : s.TypeIs (.ref z) "zip" := ⟨_, gz, rfl⟩
  unfold pyNext
  exact wpAny_bind (wpAny_attempt (wpAny_callSpecial?_slot (name := Str.ofString "__next__") gT F.slot_zip_next (wpAny_call_entry F.slot_zip_next gT F.entry_zip_next
    (zipTupItem D gz gI gO g1 g2 gl1 gl2 gx gy fun h' a1 a2 a3 a4 a5 a6 => wpAny_pure (kk h' a1 a2 a3 a4 a5 a6)) (F.args_zip_next_1 _))))
theorem pyNextZipTEnd {z TI TO i1 i2 l1 l2 : Addr} {k1 k2 : Nat} {xs ys : Array Value} {p q : Value} {Q : Option Value → Shared → Prop} (hh : A.handled = none) (D : ZipApart z TI TO i1 i2 l1 l2)
    (gz : IsZip s.heap z TI TO .none) (gI : IsPair s.heap TI (.ref i1) (.ref i2)) (gO : IsPair s.heap TO p q)
    (g1 : s.heap.IsTupleIter i1 l1 k1) (g2 : s.heap.IsTupleIter i2 l2 k2) (gl1 : s.heap.IsTuple l1 xs) (gl2 : s.heap.IsTuple l2 ys) (ge : xs[k1]? = none ∨ ys[k2]? = none)
    (kk : ∀ h', (∀ c ob, c ≠ z → c ≠ TO → c ≠ i1 → c ≠ i2 → s.heap.get? c = some ob → h'.get? c = some ob) → Q none { s with heap := h' }) : wpAny (model prog w) A (pyNext (.ref z)) Q E s := by
  have gT : s.TypeIs (.ref z) "zip" := ⟨_, gz, rfl⟩
  unfold pyNext
  refine wpAny_bind (wpAny_attempt (wpAny_callSpecial?_slot (name := Str.ofString "__next__") gT F.slot_zip_next (wpAny_call_entry F.slot_zip_next gT F.entry_zip_next
    (zipTupEnd hh D gz gI gO g1 g2 gl1 gl2 ge fun h' e hk he => ?_) (F.args_zip_next_1 _))))
  obtain ⟨ob, ho, hc⟩ := he
  exact wpAny_bind (wpAny_isInstance (T := "StopIteration") (b := true) ⟨ob, ho, hc⟩ isSubtype_stop (wpAny_pure (kk _ hk)))
abbrev zp1 (h : Heap) (l1 : Addr) : Heap := h.push { cls := .type "tuple_iterator", data := .fields #[.ref l1, .int 0 0] }
abbrev zp2 (h : Heap) (l1 l2 : Addr) : Heap := (zp1 h l1).push { cls := .type "tuple_iterator", data := .fields #[.ref l2, .int 0 0] }
abbrev zp3 (h : Heap) (l1 l2 : Addr) : Heap := (zp2 h l1 l2).push { cls := .type "tuple", data := .seq #[.ref h.objs.size, .ref (zp1 h l1).objs.size] }
abbrev zp4 (h : Heap) (l1 l2 : Addr) : Heap := (zp3 h l1 l2).push { cls := .type "tuple", data := .seq #[.none, .none] }
abbrev zp5 (h : Heap) (l1 l2 : Addr) : Heap := (zp4 h l1 l2).push { cls := .type "zip", data := .fields #[.none, .bool false, .bool false, .ref (zp2 h l1 l2).objs.size, .ref (zp3 h l1 l2).objs.size] }
theorem meets_zipT (l1 l2 : Addr) (xs ys : Array Value) :
    Meets (Builtin.«zip.__new__» ⟨[.type "zip", .ref l1, .ref l2], []⟩) (fun _ R s => s.heap.IsTuple l1 xs ∧ s.heap.IsTuple l2 ys ∧ R (.ok (.ret (.ref (zp4 s.heap l1 l2).objs.size))) { s with heap := zp5 s.heap l1 l2 }) :=
  .of_wp fun prog w A R s h => by
    obtain ⟨hp, g, d, tk, os⟩ := s
    obtain ⟨gl1, gl2, h⟩ := h
    have hsub := sub_zip
    have gL1 : Heap.IsTuple (Shared.heap ⟨hp, g, d, tk, os⟩) l1 xs := gl1
    have gL2 : Heap.IsTuple (Shared.heap ⟨hp.push { cls := .type "tuple_iterator", data := .fields #[.ref l1, .int 0 0] }, g, d, tk, os⟩) l2 ys := let ⟨ob, eo, r⟩ := gl2; ⟨ob, Heap.get?_push_of_some _ eo, r⟩
    wp_walk using wpAny_pyIter_tuple gL1, wpAny_pyIter_tuple gL2
    exact ⟨_, rfl, h⟩
theorem callZipT {l1 l2 : Addr} {xs ys : Array Value} {Q : Value → Shared → Prop} (gl1 : s.heap.IsTuple l1 xs) (gl2 : s.heap.IsTuple l2 ys)
    (kk : ∀ h', IsZip h' (s.heap.objs.size + 4) (s.heap.objs.size + 2) (s.heap.objs.size + 3) .none → IsPair h' (s.heap.objs.size + 2) (.ref s.heap.objs.size) (.ref (s.heap.objs.size + 1)) →
      IsPair h' (s.heap.objs.size + 3) .none .none → h'.IsTupleIter s.heap.objs.size l1 0 → h'.IsTupleIter (s.heap.objs.size + 1) l2 0 → (∀ c ob, s.heap.get? c = some ob → h'.get? c = some ob) → Q (.ref (s.heap.objs.size + 4)) { s with heap := h' }) :
    wpAny (model prog w) A (call (.type "zip") [.ref l1, .ref l2]) Q E s := by
  refine callType_new F.called_zip (by decide) (F.typeCall_zip_2 _ _) (F.newCall_zip_2 _ _) (fun obj => F.args_object_init_3 obj _ _) F.entry_zip_new (meets_zipT l1 l2 xs ys) ⟨gl1, gl2, ?_⟩
  have z1 : (zp1 s.heap l1).objs.size = s.heap.objs.size + 1 := Heap.size_push ..
  have z2 : (zp2 s.heap l1 l2).objs.size = s.heap.objs.size + 2 := by rw [Heap.size_push, z1]
  have z3 : (zp3 s.heap l1 l2).objs.size = s.heap.objs.size + 3 := by rw [Heap.size_push, z2]
  have z4 : (zp4 s.heap l1 l2).objs.size = s.heap.objs.size + 4 := by rw [Heap.size_push, z3]
  have y5 : (zp5 s.heap l1 l2).get? (zp4 s.heap l1 l2).objs.size = some _ := Heap.get?_push_size _ rfl
  have y4 : (zp5 s.heap l1 l2).get? (zp3 s.heap l1 l2).objs.size = some _ := Heap.get?_push_of_some _ (Heap.get?_push_size _ rfl)
  have y3 : (zp5 s.heap l1 l2).get? (zp2 s.heap l1 l2).objs.size = some _ := Heap.get?_push_of_some _ (Heap.get?_push_of_some _ (Heap.get?_push_size _ rfl))
  have y2 : (zp5 s.heap l1 l2).get? (zp1 s.heap l1).objs.size = some _ := Heap.get?_push_of_some _ (Heap.get?_push_of_some _ (Heap.get?_push_of_some _ (Heap.get?_push_size _ rfl)))
  have y1 : (zp5 s.heap l1 l2).get? s.heap.objs.size = some _ := Heap.get?_push_of_some _ (Heap.get?_push_of_some _ (Heap.get?_push_of_some _ (Heap.get?_push_of_some _ (Heap.get?_push_size _ rfl))))
  show _ ∧ _
  rw [z2, z3, z4] at y5
  rw [z1, z2] at y3
  rw [z3] at y4
  rw [z1] at y2
  rw [z4]
  exact ⟨⟨_, y5, rfl⟩, kk _ y5 y3 y4 ⟨_, y1, rfl, rfl⟩ ⟨_, y2, rfl, rfl⟩ fun c ob x => Heap.get?_push_of_some _ (Heap.get?_push_of_some _ (Heap.get?_push_of_some _ (Heap.get?_push_of_some _ (Heap.get?_push_of_some _ x))))⟩
end
def Itz (K : PySem.W.Frag) (a b : Addr) : It :=
  ⟨fun i H => ∃ xs ys x y, SqT K H a xs ∧ SqT K H b ys ∧ xs[i]? = some x ∧ ys[i]? = some y,
   fun i H v H' => ∃ T, v = .ref T ∧ H T = none ∧ ∀ xs ys, SqT K H a xs → SqT K H b ys → ∃ x y, xs[i]? = some x ∧ ys[i]? = some y ∧ H' = upd H T (.tup [x, y]),
   fun i H => ∃ xs ys, SqT K H a xs ∧ SqT K H b ys ∧ (xs.length ≤ i ∨ ys.length ≤ i)⟩
theorem turn_zipT {P : Program} {w : World} {K : PySem.W.Frag} {elts : List Expr} {n1 : Nat} {tp : Pos} {a b z TI TO i1 i2 : Addr} (D : ZipApart z TI TO i1 i2 a b) :
    Turn P w K (.Tuple elts n1 tp) (Itz K a b) [z, TI, TO, i1, i2] z (fun i h => IsZip h z TI TO .none ∧ IsPair h TI (.ref i1) (.ref i2) ∧ (∃ p q, IsPair h TO p q) ∧ h.IsTupleIter i1 a i ∧ h.IsTupleIter i2 b i) where
  mem := by simp
  obj := fun i h st c hc => by
    obtain ⟨s1, s2, ⟨p, q, s3⟩, ⟨o4, s4, c4, d4⟩, ⟨o5, s5, c5, d5⟩⟩ := st
    simp only [List.mem_cons, List.not_mem_nil, or_false] at hc
    rcases hc with rfl | rfl | rfl | rfl | rfl
    · exact ⟨_, s1, fun v y => by cases y⟩
    · exact ⟨_, s2, fun v y => by cases y⟩
    · exact ⟨_, s3, fun v y => by cases y⟩
    · exact ⟨o4, s4, fun v y => by rw [d4] at y; cases y⟩
    · exact ⟨o5, s5, fun v y => by rw [d5] at y; cases y⟩
  keep := fun i h h' st k => by
    obtain ⟨s1, s2, ⟨p, q, s3⟩, ⟨o4, s4, r4⟩, ⟨o5, s5, r5⟩⟩ := st
    exact ⟨k z (by simp) _ s1, k TI (by simp) _ s2, ⟨p, q, k TO (by simp) _ s3⟩, ⟨o4, k i1 (by simp) _ s4, r4⟩, ⟨o5, k i2 (by simp) _ s5, r5⟩⟩
  item := by
    intro X hP hw hK hc i pins s σ H E I hf st hg
    subst hP hw hK
    obtain ⟨xs, ys, x, y, qa, qb, hx, hy⟩ := hg
    obtain ⟨s1, s2, ⟨p, q, s3⟩, s4, s5⟩ := st
    obtain ⟨ia, ra, ta, za⟩ := I.tuple qa
    obtain ⟨ib, rb, tb, zb⟩ := I.tuple qb
    obtain ⟨u, hu, ru⟩ := ra.get hx
    obtain ⟨v, hv, rv⟩ := rb.get hy
    refine pyNextZipT D s1 s2 s3 s4 s5 ta tb (x := u) (y := v) (by simpa using hu) (by simpa using hv) fun h' a1 a2 a3 a4 a5 a6 => ?_
    refine ⟨_, rfl, wpAny_letOwnedTupleGo_zip (s := { s with heap := h' }) a1 fun h2 b1 hs2 => ?_⟩
    have hs2' : Heap.SameBut z h' h2 := hs2
    have neT : ∀ c o, s.heap.get? c = some o → s.heap.objs.size ≠ c := fun c o e => Nat.ne_of_gt (Heap.lt_size e)
    -- the iterator's records turn
    have fz := hf z (by simp)
    have fO := hf TO (by simp)
    have f1 := hf i1 (by simp)
    have f2 := hf i2 (by simp)
    have I1 : Inv X pins σ H { s with heap := h2, toks := s.toks } := by
      have nit : ∀ (c : Addr), c ∈ [z, TO, i1, i2] → H c = none := fun c hc => by
        simp only [List.mem_cons, List.not_mem_nil, or_false] at hc
        rcases hc with rfl | rfl | rfl | rfl
        · exact fz.1
        · exact fO.1
        · exact f1.1
        · exact f2.1
      have kp : ∀ c o, c ∉ [z, TO, i1, i2] → s.heap.get? c = some o → h2.get? c = some o := fun c o hc e => by
        simp only [List.mem_cons, List.not_mem_nil, or_false, not_or] at hc
        exact hs2'.extBut _ _ hc.1 (a6 c o hc.1 hc.2.1 hc.2.2.1 hc.2.2.2 e)
      refine I.step (g' := s.gens) (d' := s.drawn) (ch := [z, TO, i1, i2]) (fun c hc => ?_) (fun c o _ _ hc e _ => kp c o hc e) (fun c o _ _ hc e _ => ⟨o.slots, kp c o hc e⟩) (fun _ _ _ _ n => n) (fun c o hc e => ⟨o, kp c o hc e⟩) (fun _ _ e => e) (fun _ _ _ e => e) (fun c ps e => ⟨#[], by rw [e]; simp⟩) (fun m hm => ?_) (fun c o e => ?_) I.bare
      · simp only [List.mem_cons, List.not_mem_nil, or_false] at hc
        rcases hc with rfl | rfl | rfl | rfl
        · exact ⟨fz.2.2.2.1, fz.2.1, fz.2.2.2.2.1, fz.2.2.2.2.2⟩
        · exact ⟨fO.2.2.2.1, fO.2.1, fO.2.2.2.2.1, fO.2.2.2.2.2⟩
        · exact ⟨f1.2.2.2.1, f1.2.1, f1.2.2.2.2.1, f1.2.2.2.2.2⟩
        · exact ⟨f2.2.2.2.1, f2.2.1, f2.2.2.2.2.1, f2.2.2.2.2.2⟩
      · obtain ⟨o, es, ep, ho, r⟩ := hm
        refine ⟨o, es, ep, kp _ o ?_ ho, r⟩
        simp only [List.mem_cons, List.not_mem_nil, or_false, not_or]
        exact ⟨Ne.symm fz.2.1, Ne.symm fO.2.1, Ne.symm f1.2.1, Ne.symm f2.2.1⟩
      · refine (I.hok c o e).stay (fun d o' hd e' => kp d o' (fun hm => ?_) e') (fun _ e' => e') fun _ _ e' => e'
        have hn := nit d hm
        rcases hd with rfl | hd
        · rw [hn] at e; cases e
        · rw [hn] at hd; cases hd
    have hnT : H s.heap.objs.size = none := I.hok.fresh (Nat.le_refl _)
    have eT : h2.get? s.heap.objs.size = some { cls := .type "tuple", data := .seq #[u, v] } := hs2'.extBut _ _ (neT z _ s1) a5
    -- the pair is new: tracked
    have I2 : Inv X pins σ (upd H s.heap.objs.size (.tup [x, y])) { s with heap := h2, toks := s.toks } := by
      have ne : ∀ c o, H c = some o → c ≠ s.heap.objs.size := fun c o e => ne_of_none e hnT
      have hpin : ∀ p ∈ X.pn ++ pins, p.1 ≠ s.heap.objs.size := fun p hp => Nat.ne_of_lt (Heap.lt_size (I.pin p hp).1)
      refine Inv.step (s := { s with heap := h2, toks := s.toks }) (g' := s.gens) (d' := s.drawn) (t' := s.toks) (h' := h2) (ch := [s.heap.objs.size]) I1 (fun c hc => ?_) (fun c o _ _ _ e _ => e) (fun c o _ _ _ e _ => ⟨o.slots, e⟩) (fun c o hc e n => ?_) (fun c o _ e => ⟨o, e⟩)
        (fun c xs e => by rw [upd_ne (ne c _ e)]; exact e) (fun c o u e => by rw [upd_ne (ne c _ e)]; exact e) (fun c ps e => ⟨#[], by rw [upd_ne (ne c _ e), e]; simp⟩) (fun m hm => hm) (fun c o e => ?_) I1.bare
      · have e : c = s.heap.objs.size := by simpa using hc
        subst e
        exact ⟨.inr I.sz, Nat.ne_of_gt I.lt, fun x c h => (fun z => by obtain ⟨v, o, ho, _⟩ := I.cell x c h; rw [z] at ho; exact absurd (Heap.lt_size ho) (Nat.lt_irrefl _)), hpin⟩
      · rw [upd_ne (by simpa using hc)]
        exact n
      · by_cases hb : c = s.heap.objs.size
        · subst hb
          rw [upd_same] at e
          cases e
          exact ⟨by show 2 ≤ sizeLine; rw [sizeLine_eq]; decide, [u, v], .cons ru (.cons rv .nil), ⟨_, eT, rfl, _, rfl⟩⟩
        · rw [upd_ne hb] at e
          exact (I1.hok c o e).stay (fun _ _ _ q => q) (fun d q => by rw [upd_ne (ne d _ q)]; exact q) fun d xs q => by rw [upd_ne (ne d _ q)]; exact q
    refine ⟨.ref s.heap.objs.size, _, I2, rfl, ⟨_, rfl, hnT, fun xs' ys' qa' qb' => ⟨x, y, ?_, ?_, rfl⟩⟩, ⟨b1, hs2'.extBut _ _ D.TIz (a6 TI _ D.TIz D.TITO D.TIi1 D.TIi2 s2), ⟨u, v, hs2'.extBut _ _ D.TOz a2⟩, tupIter_ext a3 hs2'.extBut D.i1z, tupIter_ext a4 hs2'.extBut D.i2z⟩, fun c hc => ?_⟩
    · rw [I.tuple_inj qa' qa]; exact hx
    · rw [I.tuple_inj qb' qb]; exact hy
    · have hcn := (hf c hc).1
      have hc' : ∃ o, s.heap.get? c = some o := by
        obtain ⟨o4, t4, _⟩ := s4
        obtain ⟨o5, t5, _⟩ := s5
        simp only [List.mem_cons, List.not_mem_nil, or_false] at hc
        rcases hc with rfl | rfl | rfl | rfl | rfl
        · exact ⟨_, s1⟩
        · exact ⟨_, s2⟩
        · exact ⟨_, s3⟩
        · exact ⟨_, t4⟩
        · exact ⟨_, t5⟩
      obtain ⟨o, ho⟩ := hc'
      rw [upd_ne (Ne.symm (neT c o ho))]
      exact hcn
  done := by
    intro X hP hw hK hc i pins s σ H E I hf st hg
    subst hP hw hK
    obtain ⟨xs, ys, qa, qb, hend⟩ := hg
    obtain ⟨s1, s2, ⟨p, q, s3⟩, s4, s5⟩ := st
    obtain ⟨ia, ra, ta, za⟩ := I.tuple qa
    obtain ⟨ib, rb, tb, zb⟩ := I.tuple qb
    have l1 := ra.length
    have l2 := rb.length
    refine pyNextZipTEnd (I.ok.hd hc) D s1 s2 s3 s4 s5 ta tb (by
      rcases hend with h | h
      · left; simp; omega
      · right; simp; omega) fun h2 a6 => ⟨rfl, ?_⟩
    have fz := hf z (by simp)
    have fO := hf TO (by simp)
    have f1 := hf i1 (by simp)
    have f2 := hf i2 (by simp)
    have nit : ∀ (c : Addr), c ∈ [z, TO, i1, i2] → H c = none := fun c hc => by
      simp only [List.mem_cons, List.not_mem_nil, or_false] at hc
      rcases hc with rfl | rfl | rfl | rfl
      · exact fz.1
      · exact fO.1
      · exact f1.1
      · exact f2.1
    have kp : ∀ c o, c ∉ [z, TO, i1, i2] → s.heap.get? c = some o → h2.get? c = some o := fun c o hc e => by
      simp only [List.mem_cons, List.not_mem_nil, or_false, not_or] at hc
      exact a6 c o hc.1 hc.2.1 hc.2.2.1 hc.2.2.2 e
    refine I.step (g' := s.gens) (d' := s.drawn) (t' := s.toks) (ch := [z, TO, i1, i2]) (fun c hc => ?_) (fun c o _ _ hc e _ => kp c o hc e) (fun c o _ _ hc e _ => ⟨o.slots, kp c o hc e⟩) (fun _ _ _ _ n => n) (fun c o hc e => ⟨o, kp c o hc e⟩) (fun _ _ e => e) (fun _ _ _ e => e) (fun c ps e => ⟨#[], by rw [e]; simp⟩) (fun m hm => ?_) (fun c o e => ?_) I.bare
    · simp only [List.mem_cons, List.not_mem_nil, or_false] at hc
      rcases hc with rfl | rfl | rfl | rfl
      · exact ⟨fz.2.2.2.1, fz.2.1, fz.2.2.2.2.1, fz.2.2.2.2.2⟩
      · exact ⟨fO.2.2.2.1, fO.2.1, fO.2.2.2.2.1, fO.2.2.2.2.2⟩
      · exact ⟨f1.2.2.2.1, f1.2.1, f1.2.2.2.2.1, f1.2.2.2.2.2⟩
      · exact ⟨f2.2.2.2.1, f2.2.1, f2.2.2.2.2.1, f2.2.2.2.2.2⟩
    · obtain ⟨o, es, ep, ho, r⟩ := hm
      refine ⟨o, es, ep, kp _ o ?_ ho, r⟩
      simp only [List.mem_cons, List.not_mem_nil, or_false, not_or]
      exact ⟨Ne.symm fz.2.1, Ne.symm fO.2.1, Ne.symm f1.2.1, Ne.symm f2.2.1⟩
    · refine (I.hok c o e).stay (fun d o' hd e' => kp d o' (fun hm => ?_) e') (fun _ e' => e') fun _ _ e' => e'
      have hn := nit d hm
      rcases hd with rfl | hd
      · rw [hn] at e; cases e
      · rw [hn] at hd; cases hd
  self := fun A i s Q E st h => wpAny_pyIter_zip st.1 h
section
variable {X : Cx} {own : List Nat} {e a b c o i tg : Expr} {es elts : List Expr} {pos p2 p tp : Pos} {f fa fb fc fe : DEnv → Option D} {n1 : Nat}
theorem pi_zipT {ta : TA} (hg : Gl X "zip") (hm : X.mg "zip" = none) (hv : bootBuiltins "zip" = some (.type "zip")) (ha : PA X [a, b] ta) (hs : starEach [a, b] X.env = (false, eval a X.env) :: starEach [b] X.env := by rfl) (hpl : (backTo pos (starEach [b] X.env)).any (·.1) = false := by rfl) :
    PI X (.Tuple elts n1 tp) (.Call (.Name "zip" p) [a, b] [] pos) (fun σ H R => ta σ H fun vs H1 => ∃ x y xs ys, vs = [.ref x, .ref y] ∧ SqT X.K H1 x xs ∧ SqT X.K H1 y ys ∧ R (Itz X.K x y) H1) := by
  intro pins s σ H R I h
  refine Call_ (ld_blt I hg hm hv (PyProof.Rows.callWith_type1 (thn (ha pos pins s σ H _ I h) fun us s1 ⟨vs, H1, I1, r1, q1⟩ => ?_) hs hpl))
  obtain ⟨x, y, xs, ys, rfl, qx, qy, q⟩ := q1
  obtain ⟨u, u', rfl, ru, ru'⟩ := vals2 r1
  cases ru
  cases ru'
  obtain ⟨ia, ra, ta', za⟩ := I1.tuple qx
  obtain ⟨ib, rb, tb', zb⟩ := I1.tuple qy
  have lx : x < s1.heap.objs.size := by obtain ⟨ob, eo, _⟩ := ta'; exact Heap.lt_size eo
  have ly : y < s1.heap.objs.size := by obtain ⟨ob, eo, _⟩ := tb'; exact Heap.lt_size eo
  refine callZipT ta' tb' fun h' a1 a2 a3 a4 a5 a6 => ?_
  refine wpAny_pyIter_zip a1 ?_
  have I2 : Inv X pins σ H1 { s1 with heap := h', toks := s1.toks } := I1.kept (t' := s1.toks) a6
  have D : ZipApart (s1.heap.objs.size + 4) (s1.heap.objs.size + 2) (s1.heap.objs.size + 3) s1.heap.objs.size (s1.heap.objs.size + 1) x y := by
    constructor <;> (intro z; have z' : @Eq Nat _ _ := z; have l1 : @LT.lt Nat _ x _ := lx; have l2 : @LT.lt Nat _ y _ := ly; omega)
  refine ⟨_, _, _, Itz X.K x y, H1, rfl, I2, turn_zipT D, ⟨a1, a2, ⟨_, _, a3⟩, a4, a5⟩, fun c hc => ?_, q⟩
  have hle : s1.heap.objs.size ≤ c := by
    simp only [List.mem_cons, List.not_mem_nil, or_false] at hc
    rcases hc with rfl | rfl | rfl | rfl | rfl <;> omega
  exact I1.fpOk hle (I1.hok.fresh hle)
def zipD : List D → List D → List D
  | x :: xs, y :: ys => .tup [x, y] :: zipD xs ys
  | _, _ => []
def iZip (fa fb : DEnv → Option D) : DEnv → Option (List D) := fun ρ => (fa ρ).bind fun x => (fb ρ).bind fun y => match x, y with | .tup xs, .tup ys => some (zipD xs ys) | _, _ => none
theorem zipD_get : ∀ (xs ys : List D) (n : Nat) (d : D), (zipD xs ys)[n]? = some d → ∃ x y, xs[n]? = some x ∧ ys[n]? = some y ∧ d = .tup [x, y]
  | [], _, n, d, h => by simp [zipD] at h
  | _ :: _, [], n, d, h => by simp [zipD] at h
  | x :: xs, y :: ys, 0, d, h => by
    simp [zipD] at h
    exact ⟨x, y, rfl, rfl, h.symm⟩
  | x :: xs, y :: ys, n + 1, d, h => by
    obtain ⟨u, v, h1, h2, h3⟩ := zipD_get xs ys n d (by simpa [zipD] using h)
    exact ⟨u, v, by simpa using h1, by simpa using h2, h3⟩
theorem zipD_len : ∀ (xs ys : List D), xs.length ≤ (zipD xs ys).length ∨ ys.length ≤ (zipD xs ys).length
  | [], ys => .inl (Nat.zero_le _)
  | _ :: _, [] => .inr (Nat.zero_le _)
  | x :: xs, y :: ys => by
    rcases zipD_len xs ys with h | h
    · left; simp [zipD]; exact h
    · right; simp [zipD]; exact h
theorem itd_zip {K : PySem.W.Frag} {G1 : Hp} {x y : Addr} {vs ws : List V} {ds es : List D} (qa : SqT K G1 x vs) (qb : SqT K G1 y ws) (ra : RepL K G1 ds vs) (rb : RepL K G1 es ws) : ItD K (Itz K x y) (zipD ds es) G1 := by
  intro n G' H' s1 s2
  have qa' : SqT K H' x vs := same_tup s2 (same_tup s1 qa)
  have qb' : SqT K H' y ws := same_tup s2 (same_tup s1 qb)
  refine ⟨fun d hd => ?_, fun hn => ⟨vs, ws, qa', qb', ?_⟩⟩
  · obtain ⟨u, v, h1, h2, rfl⟩ := zipD_get ds es n d hd
    obtain ⟨v1, g1, r1⟩ := repL_get ra h1
    obtain ⟨v2, g2, r2⟩ := repL_get rb h2
    refine ⟨⟨vs, ws, v1, v2, qa', qb', g1, g2⟩, fun x' H'' hy => ?_⟩
    obtain ⟨T, rfl, hT, hh⟩ := hy
    obtain ⟨x1, y1, e1, e2, rfl⟩ := hh vs ws qa' qb'
    rw [g1] at e1
    rw [g2] at e2
    cases e1
    cases e2
    exact ⟨_, Ext.laid s2 hT, rep_new_tup (s2.free hT) (RepL.cons (r1.mono s1) (RepL.cons (r2.mono s1) RepL.nil))⟩
  · rw [hn, ← repL_length ra, ← repL_length rb]
    exact zipD_len ds es
theorem di_zip (hg : Gl X "zip") (hm : X.mg "zip" = none) (hv : bootBuiltins "zip" = some (.type "zip")) (ha : DE X own a fa) (hb : DE X own b fb) (hs : starEach [a, b] X.env = (false, eval a X.env) :: starEach [b] X.env := by rfl)
    (hs2 : starEach [b] X.env = (false, eval b X.env) :: starEach [] X.env := by rfl) (hpl : (backTo pos (starEach [b] X.env)).any (·.1) = false := by rfl) : DI X own (.Tuple elts n1 tp) (.Call (.Name "zip" p) [a, b] [] pos) (iZip fa fb) :=
  di_of (pi_zipT hg hm hv (pa_cons ha.ok (pa_cons hb.ok pa_nil hs2) hs) hs hpl) fun σ G H R ρ ds er e k => by
    obtain ⟨x, e1, e⟩ := Option.bind_eq_some_iff.mp e
    obtain ⟨y, e2, e⟩ := Option.bind_eq_some_iff.mp e
    cases x with
    | tup xs =>
      cases y with
      | tup ys =>
        cases e
        refine ⟨G, ρ, _, er, e1, fun v G1 H1 s1 r1 => ⟨G1, ρ, _, er.grow s1, e2, fun w G2 H2 s2 r2 => ?_⟩⟩
        obtain ⟨p, vs, rfl, q, rr⟩ := rep_tup (r1.mono s2.g)
        obtain ⟨p', ws, rfl, q', rr'⟩ := rep_tup r2
        exact ⟨p, p', vs, ws, rfl, same_tup s2.sub q, same_tup s2.sub q', k _ G2 H2 (s1.trans s2) (itd_zip q q' rr rr')⟩
      | _ => cases e
    | _ => cases e
end
end DL
set_option maxRecDepth 100000
set_option maxHeartbeats 4000000
namespace DL
open PySem PySem.Spec PyProof.Rows L2
def mulD : D → D → Option D := intD mulOk fun i j => .int (i * j)
theorem om_mul {K : PySem.W.Frag} : OpD K (rI CMul fun i j => .int (i * j)) mulD := od_mul
def modD : D → D → Option D := intD (fun _ j => decide (0 < j)) fun i j => .int (i % j)
theorem om_mod {K : PySem.W.Frag} : OpD K (rI (fun _ j => 0 < j) fun i j => .int (i % j)) modD := od_mod
def fdivD : D → D → Option D := intD (fun _ j => decide (0 < j) && decide (j < 1073741824)) fun i j => .int (i / j)
theorem om_fdiv {K : PySem.W.Frag} : OpD K (rI CDiv fun i j => .int (i / j)) fdivD := od_fdiv
def powD : D → D → Option D := intD (fun i j => decide (0 ≤ j) && decide (j ≤ 1000000) && decide (i.natAbs < 2 ^ 64)) fun i j => .int (i ^ j.toNat)
theorem om_pow {K : PySem.W.Frag} : OpD K (rI CPow fun i j => .int (i ^ j.toNat)) powD := od_pow
def ltD : D → D → Option D := intD0 fun i j => .bl (decide (i < j))
theorem om_lt {K : PySem.W.Frag} : OpD K (rI0 fun i j => .bl (decide (i < j))) ltD := od_lt
def gtD : D → D → Option D := intD0 fun i j => .bl (decide (j < i))
def geD : D → D → Option D := intD0 fun i j => .bl (decide (j ≤ i))
theorem om_ge {K : PySem.W.Frag} : OpD K (rI0 fun i j => .bl (decide (j ≤ i))) geD := od_ge
section
variable {X : Cx} {own : List Nat} {pos p2 : Pos}
theorem op_leB : OpR X (compareOp .LtE) (fun x y H Q => rI0 (fun i j => .bl (decide (i ≤ j))) x y H Q ∨ ∃ i j, x = .str i ∧ y = .str j ∧ Q (.bl (strLe i j)) H) := op_le.or op_le_str
def leB : D → D → Option D
  | .int i, .int j => some (.bl (decide (i ≤ j)))
  | .str x, .str y => some (.bl (strLe x y))
  | _, _ => none
theorem om_leB {K : PySem.W.Frag} : OpD K (fun x y H Q => rI0 (fun i j => .bl (decide (i ≤ j))) x y H Q ∨ ∃ i j, x = .str i ∧ y = .str j ∧ Q (.bl (strLe i j)) H) leB := by
  intro x y dx dy d G H Q sub rx ry e k
  unfold leB at e
  split at e
  · cases rep_int rx; cases rep_int ry; cases e
    exact .inl ⟨_, _, rfl, rfl, k _ G H (Ext.refl sub) Rep.bl⟩
  · cases rep_str rx; cases rep_str ry; cases e
    exact .inr ⟨_, _, rfl, rfl, k _ G H (Ext.refl sub) Rep.bl⟩
  · cases e
def neD : D → D → Option D
  | .int i, .int j => some (.bl (!(i == j)))
  | .str x, .str y => some (.bl (!(x == y)))
  | _, _ => none
theorem om_ne {K : PySem.W.Frag} : OpD K rNe neD := by
  intro x y dx dy d G H Q sub rx ry e k
  unfold neD at e
  split at e
  · cases rep_int rx; cases rep_int ry; cases e
    refine ⟨rfl, ?_⟩
    rw [dec_int]
    exact k _ G H (Ext.refl sub) Rep.bl
  · cases rep_str rx; cases rep_str ry; cases e
    refine ⟨rfl, ?_⟩
    rw [dec_str]
    exact k _ G H (Ext.refl sub) Rep.bl
  · cases e
theorem de_mulC {z : Str} {n : Int} {j j' : Nat} {pa pb : Pos} (hm : PySem.MulOk z n) : DE X own (.BinOp (.Constant (.str z) j pa) .Mult (.Constant (.int n) j' pb) pos) (fC (.str (Txt.mul z n))) :=
  de_of (pe_op op_mulS pe_str pe_int) fun σ G H Q ρ d er e k => by
    cases e
    exact ⟨z, n, rfl, rfl, hm, k _ G H (Ext.refl er.sub) Rep.str⟩
theorem de_gintE {x : Str} {i : Int} (hm : ∃ t, X.mg x = some (.int i t)) (hg : Gl X x) (hd : (x == ("__debug__" : Str)) = false := by decide) : DE X own (.Name x pos) (fC (.int i)) := by
  obtain ⟨t, ht⟩ := hm
  exact de_gint hg ht hd
end
theorem comp_free {X : Cx} {scope sc : Scope} (h : X.env.scope = sc) (hd : ∀ y ∈ scope.names, y.2 = .free → (sc.names.lookup y.1 = some .cell ∨ sc.names.lookup y.1 = some .free)) :
    ∀ y ∈ scope.names, y.2 = .free → (X.env.kindOf y.1 = some .cell ∨ X.env.kindOf y.1 = some .free) := fun y hy hf => by
  unfold Env.kindOf
  rw [h]
  exact hd y hy hf
section
variable {X : Cx} {own : List Nat} {a b c : Expr} {pos p2 : Pos} {fa fb fc : DEnv → Option D}
theorem dt_chain {op op' : CmpOp} {r r' : R2} {g g' : D → D → Option D} (ho : OpR X (compareOp op) r) (hg : OpD X.K r g) (ho' : OpR X (compareOp op') r') (hg' : OpD X.K r' g') (ha : DE X own a fa) (hb : DE X own b fb) (hc : DE X own c fc)
    (hm : lastMarks [op, op'] [b, c] = false := by with_unfolding_all rfl) : DT X own (.Compare a [op, op'] [b, c] pos) (fT (fChain g g' fa fb fc)) :=
  dt_of (pt_chain ho ho' ha.ok hb.ok hc.ok hm) fun σ G H Q ρ d er e k => by
    have e := fT_some e
    obtain ⟨x, e1, e⟩ := Option.bind_eq_some_iff.mp e
    obtain ⟨y, e2, e⟩ := Option.bind_eq_some_iff.mp e
    obtain ⟨z, e3, e⟩ := Option.bind_eq_some_iff.mp e
    refine ⟨G, ρ, x, er, e1, fun v G1 H1 s1 r1 => ⟨G1, ρ, y, er.grow s1, e2, fun w G2 H2 s2 r2 => hg s2.sub (r1.mono s2.g) r2 e3 fun t G3 H3 s3 r3 => ?_⟩⟩
    have s13 := s1.trans (s2.trans s3)
    cases z with
    | bl bb =>
      cases rep_bl r3
      refine ⟨bb, rfl, ?_⟩
      cases bb with
      | true =>
        obtain ⟨u, e4, e⟩ := Option.bind_eq_some_iff.mp e
        refine iteT ⟨G3, ρ, u, er.grow s13, e4, fun q G4 H4 s4 r4 => hg' s4.sub ((r2.mono s3.g).mono s4.g) r4 e fun v G5 H5 s5 r5 => ?_⟩
        cases rep_bl r5
        exact ⟨d, rfl, k G5 H5 (s13.trans (s4.trans s5))⟩
      | false =>
        cases e
        exact iteF ⟨false, rfl, k G3 H3 s13⟩
    | _ => cases e
theorem dt_gnotin {x : Str} {tab : List (Str × D)} (hd : GDict X x tab) (hg : Gl X x) (ha : DE X own a fa) (hm : behindInMarks .NotIn (.Name x p2) = false := by rfl) (hdb : (x == ("__debug__" : Str)) = false := by decide) : DT X own (.Compare a [.NotIn] [.Name x p2] pos) (fT (gInD tab true fa)) := by
  obtain ⟨ad, kvs, vs, hmg, hsys, hdo, rel, hn, hs⟩ := hd.ex
  refine dt_of (t := fun σ H Q => tD X.K own fa σ H fun v H1 => ∃ y, v = .str y ∧ Q (!(valV kvs (Sum.inr y)).isSome) H1) (fun pins s σ H Q I h => ?_) fun σ G H Q ρ d er e k => ?_
  · refine wpAny_isTrue_Compare1 (thn (ha.ok pins s σ H _ I h) fun v s1 ⟨y, H1, I1, r1, z, hz, q1⟩ => ld_glob I1 hg hmg ?_ hdb) hm
    subst hz
    refine wpAny_notIn_of (knd := mixKind X.prog X.w) (k := Sum.inr z) (kV_is (k := Sum.inr z) r1) hsys (hdo _ I1.kIn).mapOf ?_
    rw [← (rel.val (Sum.inr z)).isSome_eq]
    exact wpAny_truthy_bool ⟨H1, I1.tok _, q1⟩
  · have e := fT_some e
    obtain ⟨x, e1, e⟩ := Option.bind_eq_some_iff.mp e
    cases x with
    | str y =>
      cases e
      refine ⟨G, ρ, _, er, e1, fun v G1 H1 s1 r1 => ?_⟩
      cases rep_str r1
      refine ⟨y, rfl, ?_⟩
      have hb : (valV kvs (Sum.inr y)).isSome = (tab.lookup y).isSome := by
        cases ht : tab.lookup y with
        | none => rw [(hn y).mpr ht]; rfl
        | some d => obtain ⟨v, hv, _⟩ := hs y d ht; rw [hv]; rfl
      rw [hb]
      exact k G1 H1 s1
    | _ => cases e
end
theorem bo_len : bootBuiltins "len" = some (.builtin "len") := by decide +kernel
theorem bo_abs : bootBuiltins "abs" = some (.builtin "abs") := by decide +kernel
theorem bo_ord : bootBuiltins "ord" = some (.builtin "ord") := by decide +kernel
theorem bo_all : bootBuiltins "all" = some (.builtin "all") := by decide +kernel
theorem bo_isinstance : bootBuiltins "isinstance" = some (.builtin "isinstance") := by decide +kernel
theorem bo_int : bootBuiltins "int" = some (.type "int") := by decide +kernel
theorem bo_bool : bootBuiltins "bool" = some (.type "bool") := by decide +kernel
theorem bo_str : bootBuiltins "str" = some (.type "str") := by decide +kernel
theorem bo_tuple : bootBuiltins "tuple" = some (.type "tuple") := by decide +kernel
theorem bo_zip : bootBuiltins "zip" = some (.type "zip") := by decide +kernel
def Def (K : PySem.W.Frag) (mg : Str → Option Value) (x : Str) (st : Stmt) (ps : List Str) : Prop := ∃ fad fd, Fun K x x st fad fd ∧ Binds K fd ps [] ∧ mg x = some (.ref fad)
def runQ (N : List Str) (n : Nat) (q : DEnv → Option Fl) (ds : List D) : Option D := if ds.length = n then (match q (ds.map some ++ List.replicate (N.length - ds.length) none) with | some (.rt d) => some d | some (.nx _) => some .non | none => none) else none
theorem ok_of {P : Program} {w : World} {K : PySem.W.Frag} {mg : Str → Option Value} {base : Heap} {x : Str} {st : Stmt} {N ps : List Str} {k : Nat} {own' : List Nat} {q : DEnv → Option Fl} (h : Def K mg x st ps) (S : FnScope N ps (defScope st))
    (hb : ∀ (fad : Addr) (cdv : Value) (A : Around) (outer : List Env) (s : Shared) (H : Hp) (E : XK), Room k (A.deeper (envOfC x (defScope st) s.heap.objs.size fad cdv)) → DSs (cxOf CX0 P w K mg base N x (defScope st) fad cdv A outer s H E).nox [] own' (defBody st) q) :
    Ok P w K mg base (k + 1) x ps (runQ N ps.length q) := by
  obtain ⟨fad, fd, F, B, m⟩ := h
  refine ⟨fad, fd, def_ok F S (fun cdv A outer s H E hr => hb fad cdv A outer s H E hr) (fun ds d hl e => ?_), B, m, F.kp⟩
  unfold runQ at e
  rw [if_pos hl] at e
  split at e
  · cases e
    left
    assumption
  · cases e
    right
    exact ⟨_, by assumption, rfl⟩
  · cases e
theorem Ok.imp {P : Program} {w : World} {K : PySem.W.Frag} {mg : Str → Option Value} {base : Heap} {x : Str} {ps : List Str} {k : Nat} {g g' : List D → Option D} (h : Ok P w K mg base k x ps g) (hg : ∀ ds d, ds.length = ps.length → g' ds = some d → g ds = some d) : Ok P w K mg base k x ps g' := by
  obtain ⟨fad, fd, F, r⟩ := h
  exact ⟨fad, fd, F.imp fun vs H Q E ⟨hl, G, ds, d, sub, rr, e, kk⟩ => ⟨hl, G, ds, d, sub, rr, hg ds d (by rw [repL_length rr]; exact hl) e, kk⟩, r⟩
end DL
set_option maxRecDepth 100000
set_option maxHeartbeats 4000000
namespace DL
open PySem PySem.Spec PyProof.Rows L2
mutual
def litE : Nat → Expr → Option D
  | 0, _ => none
  | n + 1, .Constant (.int i) _ _ => some (.int i)
  | n + 1, .Constant (.str i) _ _ => some (.str i)
  | n + 1, .Constant (.bool i) _ _ => some (.bl i)
  | n + 1, .Constant .none _ _ => some .non
  | n + 1, .UnaryOp .USub (.Constant (.int i) _ _) _ => some (.int (-i))
  | n + 1, .BinOp (.Constant (.str z) _ _) .Mult (.Constant (.int i) _ _) _ => if 0 ≤ i ∧ i ≤ 100 ∧ z.length ≤ 100 then some (.str (Txt.mul z i)) else none
  | n + 1, .Tuple es _ _ => (litL n es).bind fun ds => if ds.length ≤ 1000 then some (.tup ds) else none
  | n + 1, .List es _ => (litL n es).bind fun ds => if ds.length ≤ 1000 then some (.lst ds) else none
  | _, _ => none
def litL : Nat → List Expr → Option (List D)
  | 0, _ => none
  | n + 1, [] => some []
  | n + 1, e :: es => (litE n e).bind fun d => (litL n es).bind fun ds => some (d :: ds)
end
section
variable {X : Cx} {own : List Nat}
theorem lit_star {n : Nat} {e : Expr} {d : D} {es : List Expr} (h : litE n e = some d) : starEach (e :: es) X.env = (false, eval e X.env) :: starEach es X.env := by
  cases n with
  | zero => unfold litE at h; cases h
  | succ n =>
    cases e <;> first | rfl | (simp [litE] at h; done)
theorem mulOk_small {z : Str} {i : Int} (h : 0 ≤ i ∧ i ≤ 100 ∧ z.length ≤ 100) : PySem.MulOk z i := by
  obtain ⟨h0, h1, h2⟩ := h
  refine ⟨?_, fun h3 _ => ?_, fun _ _ => ?_⟩
  · simp only [Bool.or_eq_false_iff, decide_eq_false_iff_not]
    omega
  · have h4 : (100 : Int) ≤ (2 ^ 63 - 1) / i := by
      rw [Int.le_ediv_iff_mul_le (by omega)]
      omega
    omega
  · have h5 : z.length * i.toNat ≤ 100 * 100 := Nat.mul_le_mul h2 (by omega)
    unfold PySem.Builtin.Str.tooLong
    rw [sizeLine_eq]
    simp only [decide_eq_false_iff_not]
    omega
mutual
theorem de_lit : ∀ {n : Nat} {e : Expr} {d : D}, litE n e = some d → DE X own e (fC d)
  | 0, e, d, h => by unfold litE at h; cases h
  | n + 1, e, d, h => by
    unfold litE at h
    split at h
    · cases h
    · cases h; exact de_int
    · cases h; exact de_str
    · cases h; exact de_bl
    · cases h; exact de_non
    · cases h; exact de_of (de_neg (own := own) de_int).ok fun σ G H Q ρ d er e k => ⟨G, ρ, _, er, e, k⟩
    · split at h
      · rename_i hm
        cases h; exact de_mulC (mulOk_small hm)
      · cases h
    · obtain ⟨ds, e1, e2⟩ := Option.bind_eq_some_iff.mp h
      split at e2
      · rename_i hl
        cases e2
        refine de_of (de_tup (da_lit e1)).ok fun σ G H Q ρ d er e k => ?_
        cases e
        refine ⟨G, ρ, _, er, ?_, k⟩
        show (Option.some ds).bind _ = _
        simp [hl]
      · cases e2
    · obtain ⟨ds, e1, e2⟩ := Option.bind_eq_some_iff.mp h
      split at e2
      · rename_i hl
        cases e2
        refine de_of (de_lst (da_lit e1)).ok fun σ G H Q ρ d er e k => ?_
        cases e
        refine ⟨G, ρ, _, er, ?_, k⟩
        show (Option.some ds).bind _ = _
        simp [hl]
      · cases e2
    · cases h
theorem da_lit : ∀ {n : Nat} {es : List Expr} {ds : List D}, litL n es = some ds → DA X own es (fun _ => some ds)
  | 0, e, d, h => by unfold litL at h; cases h
  | n + 1, [], d, h => by
    unfold litL at h
    cases h
    exact da_nil
  | n + 1, e :: es, d, h => by
    unfold litL at h
    obtain ⟨d1, e1, h⟩ := Option.bind_eq_some_iff.mp h
    obtain ⟨ds, e2, h⟩ := Option.bind_eq_some_iff.mp h
    cases h
    exact da_of (da_cons (de_lit e1) (da_lit e2) (lit_star e1)).ok fun σ G H Q ρ d er e k => ⟨G, ρ, _, er, e, k⟩
end
end
end DL
set_option maxRecDepth 100000
set_option maxHeartbeats 4000000
namespace DL
open PySem PySem.Spec PyProof.Rows L2
section
variable {P : Program} {w : World} {K : PySem.W.Frag} {mg : Str → Option Value} {h : Heap}
theorem def_mk {x : Str} {st : Stmt} {f : Addr} {ps : List Str} {oc : Value} {od an : Option Addr} {osl : Array (Option Value)} {kV doc pm cdv ct : Value} (X : K.In h) (G : h.Ns mainGlobals mg)
    (a : PySem.W.nsIn K mainGlobals x = some (some (.ref f))) (l : K.lookup f = some ⟨oc, od, .func (PySem.W.fnOf x x (defArgs st) (defBody st) (defScope st) .none kV doc pm an cdv ct), osl⟩)
    (c : PySem.W.codeIn K cdv x = true) (k : PySem.W.keepIn K (.ref f) = true)
    (b : ∀ (kV doc pm : Value) (an : Option Addr) (cdv ct : Value) (us : List Value), us.length = ps.length → bindArgs (PySem.W.fnOf x x (defArgs st) (defBody st) (defScope st) .none kV doc pm an cdv ct) ⟨us, []⟩ = pure (ps.zip us)) : Def K mg x st ps :=
  ⟨f, _, fun_mk l c k, (fun_mk l c k).binds b, PySem.W.mg_of X G a⟩
def DefL (K : PySem.W.Frag) (mg : Str → Option Value) (x : Str) (st : Stmt) (ps : List Str) : Prop := ∃ fad fd, Fun K x x st fad fd ∧ (∀ us : List Value, us.length = ps.length → bindArgs fd ⟨us, []⟩ = pure (ps.zip us)) ∧ mg x = some (.ref fad)
theorem defL_mk {x : Str} {st : Stmt} {f : Addr} {ps : List Str} {oc : Value} {od an : Option Addr} {osl : Array (Option Value)} {kV doc pm cdv ct : Value} (X : K.In h) (G : h.Ns mainGlobals mg)
    (a : PySem.W.nsIn K mainGlobals x = some (some (.ref f))) (l : K.lookup f = some ⟨oc, od, .func (PySem.W.fnOf x x (defArgs st) (defBody st) (defScope st) .none kV doc pm an cdv ct), osl⟩)
    (c : PySem.W.codeIn K cdv x = true) (k : PySem.W.keepIn K (.ref f) = true)
    (b : ∀ (kV doc pm : Value) (an : Option Addr) (cdv ct : Value) (us : List Value), us.length = ps.length → bindArgs (PySem.W.fnOf x x (defArgs st) (defBody st) (defScope st) .none kV doc pm an cdv ct) ⟨us, []⟩ = pure (ps.zip us)) : DefL K mg x st ps :=
  ⟨f, _, fun_mk l c k, b _ _ _ _ _ _, PySem.W.mg_of X G a⟩
theorem gint_mk {x : Str} {i : Int} {tk : Tok} (X : K.In h) (G : h.Ns mainGlobals mg) (a : PySem.W.nsIn K mainGlobals x = some (some (.int i tk))) : ∃ tk, mg x = some (.int i tk) := ⟨tk, PySem.W.mg_of X G a⟩
theorem gref_mk {x : Str} {a : Addr} (X : K.In h) (G : h.Ns mainGlobals mg) (e : PySem.W.nsIn K mainGlobals x = some (some (.ref a))) : mg x = some (.ref a) := PySem.W.mg_of X G e
theorem gnone_mk {x : Str} (X : K.In h) (G : h.Ns mainGlobals mg) (e : PySem.W.nsIn K mainGlobals x = some none) : mg x = none := PySem.W.mg_none_of X G e
theorem law_of {x : Str} {st : Stmt} {N : List Str} {k : Nat} {own' : List Nat} {q : DEnv → Option Fl} {y : Str} (hd : DefL K mg x st [y]) (S : FnScope N [y] (defScope st)) {fa : Addr} (hfa : mg x = some (.ref fa))
    (hb : ∀ (base : Heap) (fad : Addr) (cdv : Value) (A : Around) (outer : List Env) (s : Shared) (H : Hp) (E : XK), Room k (A.deeper (envOfC x (defScope st) s.heap.objs.size fad cdv)) → DSs (cxOf CX0 P w K mg base N x (defScope st) fad cdv A outer s H E).nox [] own' (defBody st) q) :
    ∃ fd : FuncData, (∀ (s : Shared) (u : Value), BindsTo s fd ⟨[u], []⟩ [(y, u)]) ∧ ∀ base : Heap, K.In base → base.Ns mainGlobals mg → FnOk P w K mg base CX0 (k + 1) fa fd [y] (spF K 1 (runQ N 1 q)) := by
  obtain ⟨f, fd, F, B, m⟩ := hd
  rw [hfa] at m
  cases m
  refine ⟨fd, fun s u => .of_eq (B [u] rfl), fun base _ _ => def_ok F S (fun cdv A outer s H E hr => hb base _ cdv A outer s H E hr) (fun ds d hl e => ?_)⟩
  unfold runQ at e
  rw [if_pos (show ds.length = 1 from hl)] at e
  split at e
  · cases e
    left
    assumption
  · cases e
    right
    exact ⟨_, by assumption, rfl⟩
  · cases e
theorem ints_repL {K : PySem.W.Frag} {H : Hp} : ∀ (ns : List Int), RepL K H (ns.map D.int) (ns.map V.int)
  | [] => RepL.nil
  | n :: r => RepL.cons Rep.int (ints_repL r)
theorem law_sp {K : PySem.W.Frag} {g : List D → Option D} {H : Hp} {a : Addr} {ns : List Int} (hS : SqL K H a (ns.map V.int)) (hg : g [.lst (ns.map .int)] = some (.bl true)) : spF K 1 g [.ref a] H (fun v _ => v = .bl true) fun _ _ _ => False :=
  ⟨rfl, H, [.lst (ns.map .int)], .bl true, Same.refl H, RepL.cons (Rep.lst hS (ints_repL ns)) RepL.nil, hg, fun v G' H' _ r => rep_bl r⟩
abbrev Row3 := Str × Tok × Addr
def rowE (w : World) (r : Row3) : DictEntry := ⟨PyData.keyHash w.params r.1, .str r.1 r.2.1, .ref r.2.2⟩
def RowsOk (K : PySem.W.Frag) : List Row3 → List (Str × D) → Prop
  | [], [] => True
  | r :: rs, t :: ts => r.1 = t.1 ∧ (∀ H, Rep K H t.2 (V.ref r.2.2)) ∧ RowsOk K rs ts
  | _, _ => False
abbrev rowsV (rows : List Row3) : List (L2.Key × V) := rows.map fun r => (Sum.inr r.1, V.ref r.2.2)
abbrev rowsU (rows : List Row3) : List (L2.Key × Value) := rows.map fun r => (Sum.inr r.1, Value.ref r.2.2)
theorem rows_pairs {P : Program} : ∀ (rows : List Row3), Pairs (mixKind P w) (rows.map (rowE w)) (rowsU rows)
  | [] => .nil
  | r :: rs => .cons (mixKind_str P w r.1 r.2.1) rfl (rows_pairs rs)
theorem rows_look {y : Str} : ∀ {rows : List Row3} {tab : List (Str × D)}, RowsOk K rows tab → (valV (rowsV rows) (Sum.inr y) = none ↔ tab.lookup y = none) ∧ ∀ d, tab.lookup y = some d → ∃ v, valV (rowsV rows) (Sum.inr y) = some v ∧ ∀ H, Rep K H d v
  | [], [], _ => ⟨⟨fun _ => rfl, fun _ => rfl⟩, fun d e => by cases e⟩
  | [], t :: ts, h => h.elim
  | r :: rs, [], h => h.elim
  | r :: rs, (x, d0) :: ts, h => by
    obtain ⟨h1, h2, h3⟩ := h
    have ih := rows_look (y := y) h3
    have h1' : r.1 = x := h1
    unfold valV at ih ⊢
    simp only [List.map_cons, List.find?_cons, List.lookup_cons]
    by_cases e : y = x
    · subst e
      have : decide ((Sum.inr r.1 : L2.Key) = Sum.inr y) = true := by simp [h1']
      simp only [this, beq_self_eq_true]
      refine ⟨⟨fun z => by simp at z, fun z => by simp at z⟩, fun d z => ?_⟩
      cases z
      exact ⟨_, rfl, h2⟩
    · have e1 : decide ((Sum.inr r.1 : L2.Key) = Sum.inr y) = false := by
        rw [h1']
        exact decide_eq_false fun z => e (Sum.inr.inj z).symm
      have e2 : (y == x) = false := by simp [e]
      simp only [e1, e2]
      exact ih
theorem kv_rows : ∀ (rows : List Row3), KV (rowsV rows) (rowsU rows)
  | [] => .nil
  | r :: rs => .cons ⟨rfl, rfl⟩ (kv_rows rs)
theorem gdict_mk {X : Cx} {x : Str} {ad : Addr} {rows : List Row3} {tab : List (Str × D)} {ep : Nat} (hw : X.w = w) (hK : X.K = K) (hmg : X.mg = mg) (hm : mg x = some (.ref ad)) (hs : (ad == sysModules) = false) (hl : K.lookup ad = some { cls := .type "dict", data := .dict (rows.map (rowE w)).toArray ep })
    (nd : (rows.map (·.1)).Nodup) (ht : RowsOk K rows tab) : GDict X x tab := by
  subst hw hK hmg
  refine ⟨ad, rowsV rows, rowsU rows, hm, hs, fun h hK => ⟨_, _, _, hK _ _ hl, ⟨rfl, rfl, rfl⟩, rfl, ?_, ?_, ?_⟩, kv_rows rows, fun y => (rows_look ht).1, fun y d => (rows_look ht).2 d⟩
  · intro e he
    have he' : e ∈ rows.map (rowE X.w) := by simpa using he
    obtain ⟨r, hr, rfl⟩ := List.mem_map.mp he'
    exact ⟨Sum.inr r.1, mixKind_str _ _ r.1 r.2.1, rfl⟩
  · simpa using rows_pairs (w := X.w) (P := X.prog) rows
  · have e : (rowsU rows).map (·.1) = (rows.map (·.1)).map (Sum.inr : Str → L2.Key) := by simp [rowsU]
    rw [e]
    exact List.Pairwise.map _ (fun a b hab z => hab (Sum.inr.inj z)) nd
theorem repL_fns {H : Hp} : ∀ (fs : List Addr), RepL K H (fs.map D.fn) (fs.map V.ref)
  | [] => RepL.nil
  | n :: r => RepL.cons (by unfold Rep; rfl) (repL_fns r)
theorem vals_refs : ∀ (fs : List Addr), Vals (fs.map V.ref) (fs.map Value.ref)
  | [] => .nil
  | n :: r => .cons rfl (vals_refs r)
theorem rep_fnsK {a : Addr} {fs : List Addr} {od : Option Addr} {n : Nat} {sl : Array (Option Value)} (l : K.lookup a = some ⟨.type "tuple", od, .seq (fs.map Value.ref).toArray n, sl⟩) (hz : fs.length ≤ 1000) (H : Hp) : Rep K H (.tup (fs.map D.fn)) (V.ref a) :=
  Rep.tup (.inr ⟨_, _, n, l, rfl, rfl, by simpa using line1000 hz, by simpa using vals_refs fs⟩) (repL_fns fs)
end
end DL
set_option maxRecDepth 100000
set_option maxHeartbeats 4000000
namespace DL
open PySem PySem.Spec PyProof.Rows L2
section
variable {X : Cx} {own own1 : List Nat} {e a b c o : Expr} {es : List Expr} {pos p2 : Pos} {f fa fb fc fe : DEnv → Option D} {fs fi : DEnv → Option (List D)} {ft fu : DEnv → Option Bool} {st : Stmt} {q1 : DEnv → Option Fl}
theorem call_str : CallR X (.type "str") (fun xs H Q => (∃ i, xs = [.int i] ∧ i.natAbs.log2 < 1920 ∧ Q (.str (toString i)) H) ∨ ∃ z, xs = [.str z] ∧ Q (.str z) H) := by
  intro pins s σ H xs us Q I r h
  rcases h with h | ⟨z, rfl, q⟩
  · exact call_str_int pins s σ H xs us Q I r h
  · obtain ⟨u, rfl, t, rfl⟩ := vals1 r
    exact PySem.P.str_of_str ⟨.str z, H, I, ⟨_, rfl⟩, q⟩
def strD : List D → Option D
  | [.int i] => if i.natAbs.log2 < 1920 then some (.str (toString i)) else none
  | [.str z] => some (.str z)
  | _ => none
theorem cd_str {K : PySem.W.Frag} : CallD K (fun xs H Q => (∃ i, xs = [.int i] ∧ i.natAbs.log2 < 1920 ∧ Q (.str (toString i)) H) ∨ ∃ z, xs = [.str z] ∧ Q (.str z) H) strD := by
  intro vs ds d G H Q sub r e k
  unfold strD at e
  split at e
  · obtain ⟨v, rfl, rv⟩ := repL_one r
    cases rep_int rv
    split at e
    · rename_i hl
      cases e
      exact .inl ⟨_, rfl, hl, k _ G H (Ext.refl sub) Rep.str⟩
    · cases e
  · obtain ⟨v, rfl, rv⟩ := repL_one r
    cases rep_str rv
    cases e
    exact .inr ⟨_, rfl, k _ G H (Ext.refl sub) Rep.str⟩
  · cases e
theorem call_intT : CallR X (.type "int") (fun xs H Q => ∃ z n, xs = [.str z] ∧ PySem.intText? z = some n ∧ z.length ≤ 640 ∧ Q (.int n) H) := by
  intro pins s σ H xs us Q I r h
  obtain ⟨z, n, rfl, hn, hl, q⟩ := h
  obtain ⟨u, rfl, t, rfl⟩ := vals1 r
  exact PySem.W.KIN.call_text hn hl ⟨.int n, H, I.tok _, ⟨_, rfl⟩, q⟩
def intD1 : List D → Option D
  | [.str z] => if z.length ≤ 640 then (PySem.intText? z).map D.int else none
  | _ => none
theorem cd_intT {K : PySem.W.Frag} : CallD K (fun xs H Q => ∃ z n, xs = [.str z] ∧ PySem.intText? z = some n ∧ z.length ≤ 640 ∧ Q (.int n) H) intD1 := by
  intro vs ds d G H Q sub r e k
  unfold intD1 at e
  split at e
  · obtain ⟨v, rfl, rv⟩ := repL_one r
    cases rep_str rv
    split at e
    · rename_i hl
      obtain ⟨n, e1, rfl⟩ := Option.map_eq_some_iff.mp e
      exact ⟨_, n, rfl, e1, hl, k _ G H (Ext.refl sub) Rep.int⟩
    · cases e
  · cases e
def inB : D → D → Option D
  | .str i, .str j => some (.bl (!(Builtin.Str.occurrences j i 0 j.length 1).isEmpty))
  | x, y => inFD false x y
theorem op_inB : OpR X (compareOp .In) (fun x y H Q => rIn X.K false x y H Q ∨ ∃ i j, x = .str i ∧ y = .str j ∧ Q (.bl (!(Builtin.Str.occurrences j i 0 j.length 1).isEmpty)) H) := op_in_seq.or op_in_str
theorem om_inB {K : PySem.W.Frag} : OpD K (fun x y H Q => rIn K false x y H Q ∨ ∃ i j, x = .str i ∧ y = .str j ∧ Q (.bl (!(Builtin.Str.occurrences j i 0 j.length 1).isEmpty)) H) inB := by
  intro x y dx dy d G H Q sub rx ry e k
  unfold inB at e
  split at e
  · cases rep_str rx; cases rep_str ry; cases e
    exact .inr ⟨_, _, rfl, rfl, k _ G H (Ext.refl sub) Rep.bl⟩
  · exact .inl (od_in sub rx ry e k)
def splitL (x y : Str) (lim : Nat) : List Str :=
  if (decide (x.length < y.length) || decide (Builtin.Str.strKind x < Builtin.Str.strKind y)) = true then [x] else
  if (Builtin.Str.occurrences x y 0 x.length lim).isEmpty = true then [x] else Builtin.Str.partsBetween x (Builtin.Str.occurrences x y 0 x.length lim) y.length
theorem vals_from : ∀ (l : List Str) (k : Nat), Vals (l.map V.str) (strsFrom k l)
  | [], _ => .nil
  | y :: r, k => .cons ⟨k, rfl⟩ (vals_from r (k + 1))
theorem occ_small (x y : Str) (lim : Nat) (h : lim ≤ big + 1) : (Builtin.Str.partsBetween x (Builtin.Str.occurrences x y 0 x.length lim) y.length).length ≤ sizeLine := by
  rw [length_partsBetween]
  have := StrLaws.occ_length_le x y 0 x.length lim
  have h2 : big + 2 ≤ sizeLine := by rw [sizeLine_eq]; decide
  omega
def rSplit1 : V → List V → Hp → VK → Prop := fun x vs H Q => ∃ (z y : Str), x = .str z ∧ vs = [.str y] ∧ (y.length == 0) = false ∧ z.length ≤ big ∧ ∀ p, H p = none → Q (.ref p) (upd H p (.lst ((splitL z y (z.length + 1)).map V.str)))
theorem mt_split1 : MtR X "str.split" rSplit1 := by
  intro pins s σ H x xs v us Q I rx r h
  obtain ⟨z, y, rfl, rfl, hy, hz, q⟩ := h
  obtain ⟨t, rfl⟩ := rx
  obtain ⟨u, rfl, t', rfl⟩ := vals1 r
  have q' := q _ I.fresh
  unfold splitL at q'
  cases h1 : (decide (z.length < y.length) || decide (Builtin.Str.strKind z < Builtin.Str.strKind y)) with
  | true =>
    rw [h1] at q'
    refine call_meets F.slot_str_split (typeIs_str _ _ _) F.entry_str_split (F.args_str_split_2 _ _) (meets_str_split_cannot_occur z y t t' h1) ?_
    exact ⟨.ref _, _, I.lnew (t' := s.toks) (ys := [V.str z]) (its := [.str z t]) (.cons ⟨t, rfl⟩ .nil) (by show 1 ≤ sizeLine; rw [sizeLine_eq]; decide), rfl, q'⟩
  | false =>
    rw [h1] at q'
    cases hf : (Builtin.Str.occurrences z y 0 z.length (z.length + 1)).isEmpty with
    | true =>
      rw [hf] at q'
      refine call_meets F.slot_str_split (typeIs_str _ _ _) F.entry_str_split (F.args_str_split_2 _ _) (meets_str_split_not_found z y t t' h1 hy hf) ?_
      exact ⟨.ref _, _, I.lnew (t' := s.toks) (ys := [V.str z]) (its := [.str z t]) (.cons ⟨t, rfl⟩ .nil) (by show 1 ≤ sizeLine; rw [sizeLine_eq]; decide), rfl, q'⟩
    | false =>
      rw [hf] at q'
      have hs := occ_small z y (z.length + 1) (by omega)
      refine call_meets F.slot_str_split (typeIs_str _ _ _) F.entry_str_split (F.args_str_split_2 _ _) (meets_str_split_sep z y t t' h1 hy hf (big_line hz) hs) ?_
      exact ⟨.ref _, _, I.lnew (ys := (Builtin.Str.partsBetween z (Builtin.Str.occurrences z y 0 z.length (z.length + 1)) y.length).map V.str) (vals_from _ _) (by rw [List.length_map]; exact hs), rfl, q'⟩
def rSplit2 : V → List V → Hp → VK → Prop := fun x vs H Q => ∃ (z y : Str) (k : Int), x = .str z ∧ vs = [.str y, .int k] ∧ (y.length == 0) = false ∧ z.length ≤ big ∧ 0 ≤ k ∧ k ≤ 1000 ∧ ∀ p, H p = none → Q (.ref p) (upd H p (.lst ((splitL z y (limitOf z k)).map V.str)))
theorem mt_split2 : MtR X "str.split" rSplit2 := by
  intro pins s σ H x xs v us Q I rx r h
  obtain ⟨z, y, k, rfl, rfl, hy, hz, k0, k1, q⟩ := h
  obtain ⟨t, rfl⟩ := rx
  obtain ⟨u, u2, rfl, ⟨t', rfl⟩, ⟨t2, rfl⟩⟩ := vals2 r
  have q' := q _ I.fresh
  have hk : (decide (k < -(2 ^ 63 : Int)) || decide (k ≥ 2 ^ 63)) = false := by
    rw [Bool.or_eq_false_iff, decide_eq_false_iff_not, decide_eq_false_iff_not]
    omega
  have hlim : limitOf z k ≤ big + 1 := by
    unfold limitOf big at *
    split <;> omega
  unfold splitL at q'
  cases h1 : (decide (z.length < y.length) || decide (Builtin.Str.strKind z < Builtin.Str.strKind y)) with
  | true =>
    rw [h1] at q'
    refine call_meets F.slot_str_split (typeIs_str _ _ _) F.entry_str_split (F.args_str_split_3 _ _ _) (meets_str_split_max_cannot_occur z y k t t' t2 hk h1) ?_
    exact ⟨.ref _, _, I.lnew (t' := s.toks) (ys := [V.str z]) (its := [.str z t]) (.cons ⟨t, rfl⟩ .nil) (by show 1 ≤ sizeLine; rw [sizeLine_eq]; decide), rfl, q'⟩
  | false =>
    rw [h1] at q'
    cases hf : (Builtin.Str.occurrences z y 0 z.length (limitOf z k)).isEmpty with
    | true =>
      rw [hf] at q'
      refine call_meets F.slot_str_split (typeIs_str _ _ _) F.entry_str_split (F.args_str_split_3 _ _ _) (meets_str_split_max_not_found z y k t t' t2 hk h1 hy hf) ?_
      exact ⟨.ref _, _, I.lnew (t' := s.toks) (ys := [V.str z]) (its := [.str z t]) (.cons ⟨t, rfl⟩ .nil) (by show 1 ≤ sizeLine; rw [sizeLine_eq]; decide), rfl, q'⟩
    | false =>
      rw [hf] at q'
      have hs := occ_small z y (limitOf z k) hlim
      refine call_meets F.slot_str_split (typeIs_str _ _ _) F.entry_str_split (F.args_str_split_3 _ _ _) (meets_str_split_sep_max z y k t t' t2 hk h1 hy hf (big_line hz) hs) ?_
      exact ⟨.ref _, _, I.lnew (ys := (Builtin.Str.partsBetween z (Builtin.Str.occurrences z y 0 z.length (limitOf z k)) y.length).map V.str) (vals_from _ _) (by rw [List.length_map]; exact hs), rfl, q'⟩
def strsL (l : List Str) : D := .lst (l.map D.str)
theorem repL_strs {K : PySem.W.Frag} {H : Hp} : ∀ (l : List Str), RepL K H (l.map D.str) (l.map V.str)
  | [] => RepL.nil
  | _ :: r => RepL.cons Rep.str (repL_strs r)
def splitD1 : D → D → Option D
  | .str z, .str y => if y.length ≠ 0 ∧ z.length ≤ big then some (strsL (splitL z y (z.length + 1))) else none
  | _, _ => none
def fSplit1 (fo fa : DEnv → Option D) : DEnv → Option D := fun ρ => (fo ρ).bind fun x => (fa ρ).bind fun y => splitD1 x y
theorem de_split1 {fo : DEnv → Option D} {apos cpos : Pos} (ho : DE X own o fo) (ha : DE X own a fa)
    (hbase : attributeBase o "split" X.env (eval o X.env) = eval o X.env := by rfl)
    (hfew : ((backTo cpos (starEach [a] X.env)).all (fun x => !x.1) && (backToKw cpos (keywordEach [] X.env)).all (fun x => x.1.isSome)
      && decide ([a].length + ([] : List Keyword).length + (if ([] : List Keyword).isEmpty then 0 else 1) < 30)) = true := by rfl)
    (hline : (apos.endLine == cpos.line) = true := by rfl) (hs : starEach (a :: []) X.env = (false, eval a X.env) :: starEach [] X.env := by rfl) (hplain : (backTo cpos (starEach [] X.env)).any (·.1) = false := by rfl) :
    DE X own (.Call (.Attribute o "split" apos) [a] [] cpos) (fSplit1 fo fa) :=
  de_of (pe_bm PySem.F.plainAttrs_str PySem.F.slot_str_split PySem.F.type_str_split mt_split1 ho.ok (pa_cons ha.ok pa_nil hs) hbase hfew hline hs hplain) fun σ G H Q ρ d er e k => by
    obtain ⟨x, e1, e⟩ := Option.bind_eq_some_iff.mp e
    obtain ⟨y, e2, e⟩ := Option.bind_eq_some_iff.mp e
    unfold splitD1 at e
    split at e
    · split at e
      · rename_i hl
        cases e
        refine ⟨G, ρ, _, er, e1, fun v G1 H1 s1 r1 => ?_⟩
        cases rep_str r1
        refine ⟨rfl, G1, ρ, _, er.grow s1, e2, fun w G2 H2 s2 r2 => ?_⟩
        cases rep_str r2
        exact ⟨_, _, rfl, rfl, by simpa using hl.1, hl.2, fun p hp => k _ _ _ ((s1.trans s2).trans (Ext.laid s2.sub hp)) (rep_new_lst (s2.sub.free hp) (repL_strs _))⟩
      · cases e
    · cases e
def splitD2 : D → D → D → Option D
  | .str z, .str y, .int k => if y.length ≠ 0 ∧ z.length ≤ big ∧ 0 ≤ k ∧ k ≤ 1000 then some (strsL (splitL z y (limitOf z k))) else none
  | _, _, _ => none
def fSplit2 (fo fa fb : DEnv → Option D) : DEnv → Option D := fun ρ => (fo ρ).bind fun x => (fa ρ).bind fun y => (fb ρ).bind fun z => splitD2 x y z
theorem de_split2 {fo : DEnv → Option D} {apos cpos : Pos} (ho : DE X own o fo) (ha : DE X own a fa) (hb : DE X own b fb)
    (hbase : attributeBase o "split" X.env (eval o X.env) = eval o X.env := by rfl)
    (hfew : ((backTo cpos (starEach [a, b] X.env)).all (fun x => !x.1) && (backToKw cpos (keywordEach [] X.env)).all (fun x => x.1.isSome)
      && decide ([a, b].length + ([] : List Keyword).length + (if ([] : List Keyword).isEmpty then 0 else 1) < 30)) = true := by rfl)
    (hline : (apos.endLine == cpos.line) = true := by rfl) (hs : starEach (a :: [b]) X.env = (false, eval a X.env) :: starEach [b] X.env := by rfl) (hs2 : starEach (b :: []) X.env = (false, eval b X.env) :: starEach [] X.env := by rfl) (hplain : (backTo cpos (starEach [b] X.env)).any (·.1) = false := by rfl) :
    DE X own (.Call (.Attribute o "split" apos) [a, b] [] cpos) (fSplit2 fo fa fb) :=
  de_of (pe_bm PySem.F.plainAttrs_str PySem.F.slot_str_split PySem.F.type_str_split mt_split2 ho.ok (pa_cons ha.ok (pa_cons hb.ok pa_nil hs2) hs) hbase hfew hline hs hplain) fun σ G H Q ρ d er e k => by
    obtain ⟨x, e1, e⟩ := Option.bind_eq_some_iff.mp e
    obtain ⟨y, e2, e⟩ := Option.bind_eq_some_iff.mp e
    obtain ⟨z, e3, e⟩ := Option.bind_eq_some_iff.mp e
    unfold splitD2 at e
    split at e
    · split at e
      · rename_i hl
        cases e
        refine ⟨G, ρ, _, er, e1, fun v G1 H1 s1 r1 => ?_⟩
        cases rep_str r1
        refine ⟨rfl, G1, ρ, _, er.grow s1, e2, fun w G2 H2 s2 r2 => ?_⟩
        cases rep_str r2
        refine ⟨G2, ρ, _, er.grow (s1.trans s2), e3, fun w G3 H3 s3 r3 => ?_⟩
        cases rep_int r3
        exact ⟨_, _, _, rfl, rfl, by simpa using hl.1, hl.2.1, hl.2.2.1, hl.2.2.2, fun p hp => k _ _ _ ((s1.trans (s2.trans s3)).trans (Ext.laid s3.sub hp)) (rep_new_lst (s3.sub.free hp) (repL_strs _))⟩
      · cases e
    · cases e
theorem ds_none : DS X own own1 st (fun _ => none) := ⟨fun G0 F0 pins s σ H E I ⟨G, ρ, r, er, e, k⟩ => by cases e⟩
theorem ds_try {body : List Stmt} {h0 : ExceptHandler} {hs : List ExceptHandler} (hb : DSs X.nox own own1 body q1) : DS X own own1 (.Try body (h0 :: hs) [] [] pos) q1 := ⟨fun G0 F0 pins s σ H E I ⟨G, ρ, r, er, e, k⟩ => by
  refine wpAny_Try_except (wpAny_mono (hb.ok G0 F0 pins s σ H E (I.wish _) ⟨G, ρ, r, er, e, k⟩) (fun f s1 q => ?_) fun _ _ z => False.elim z)
  cases f with
  | next => exact wpAny_execs_nil q.unwish
  | brk => exact q.unwish
  | cont => exact q.unwish
  | ret u => exact q.unwish⟩
def rIsiT (K : PySem.W.Frag) (Ts : List String) : List V → Hp → VK → Prop := fun xs H Q => ∃ x d b p, xs = [x, .ref p] ∧ SqT K H p (Ts.map V.ty) ∧ Rep K H d x ∧ PySem.W.kitAny K (tyD d) (Ts.map Value.type) = some b ∧ (∀ a, d ≠ .fn a) ∧ (∀ a, d ≠ .dk a) ∧ Q (.bl b) H
theorem vals_tys : ∀ {Ts : List String} {us : List Value}, Vals (Ts.map V.ty) us → us = Ts.map Value.type
  | [], _, .nil => rfl
  | b :: bs, _, .cons r t => by cases r; rw [vals_tys t]; rfl
theorem call_isiT {Ts : List String} : CallR X (.builtin "isinstance") (rIsiT X.K Ts) := by
  intro pins s σ H xs us Q I r h
  obtain ⟨x, d, b, p, rfl, hp, rx, e, hf, hf2, q⟩ := h
  obtain ⟨u, w', rfl, r1, r2⟩ := vals2 r
  cases r2
  have fin : ∀ tk, EP X pins σ Q (.bool b) { s with toks := tk } := fun tk => ⟨.bl b, H, I.tok tk, rfl, q⟩
  obtain ⟨its0, rv0, ⟨⟨cls, dd, data, sl⟩, ho, hc, n, hd⟩, _⟩ := I.tuple hp
  have := vals_tys rv0
  subst this
  simp only at hc hd
  subst hc hd
  cases d with
  | non => cases rep_non rx; cases r1; exact PySem.W.kia_tup PySem.W.kitx_none I.kIn True.intro ho e (fun z => nomatch z) fin
  | bl y => cases rep_bl rx; cases r1; exact PySem.W.kia_tup PySem.W.kitx_bool I.kIn True.intro ho e (fun z => nomatch z) fin
  | int y => cases rep_int rx; obtain ⟨t, rfl⟩ := r1; exact PySem.W.kia_tup PySem.W.kitx_int I.kIn True.intro ho e (fun z => nomatch z) fin
  | str y => cases rep_str rx; obtain ⟨t, rfl⟩ := r1; exact PySem.W.kia_tup PySem.W.kitx_str I.kIn True.intro ho e (fun z => nomatch z) fin
  | tup ys =>
    obtain ⟨a, vs, rfl, qa, ra⟩ := rep_tup rx
    cases r1
    obtain ⟨its, _, ⟨o, h1, h2, _⟩, _⟩ := I.tuple qa
    exact PySem.W.kia_tup PySem.W.kitx_tuple I.kIn ⟨o, h1, h2⟩ ho e (fun z => nomatch z) fin
  | lst ys =>
    obtain ⟨a, vs, rfl, qa, ra⟩ := rep_lst rx
    cases r1
    obtain ⟨its, _, pl, _⟩ := I.list qa
    obtain ⟨o, n, h1, h2, _⟩ := pl
    exact PySem.W.kia_tup PySem.W.kitx_list I.kIn ⟨o, h1, h2⟩ ho e (fun z => nomatch z) fin
  | fn a => exact absurd rfl (hf a)
  | dk a => exact absurd rfl (hf2 a)
def isiAny : List String → D → Option Bool
  | [], _ => some false
  | T :: r, d => (isiD T d).bind fun b => if b then some true else isiAny r d
theorem isi_any {K : PySem.W.Frag} : ∀ {Ts : List String} {d : D} {b : Bool}, (∀ T ∈ Ts, IsiT K T) → isiAny Ts d = some b → PySem.W.kitAny K (tyD d) (Ts.map Value.type) = some b
  | [], d, b, _, e => by cases e; rfl
  | T :: r, d, b, h, e => by
    obtain ⟨c, e1, e⟩ := Option.bind_eq_some_iff.mp e
    have h1 := (h T List.mem_cons_self).ok d c e1
    simp only [List.map_cons, PySem.W.kitAny, h1]
    cases c with
    | true => exact e
    | false => exact isi_any (fun T hT => h T (List.mem_cons_of_mem _ hT)) e
def fIsiT (Ts : List String) (f : DEnv → Option D) : DEnv → Option D := fun ρ => (f ρ).bind fun d => (isiAny Ts d).bind fun b => if noFn d then some (.bl b) else none
theorem de_isi3 {x1 x2 x3 : Str} {T1 T2 T3 : String} {p p1 p3 p4 p5 : Pos} {n1 : Nat} (ht1 : IsiT X.K T1) (ht2 : IsiT X.K T2) (ht3 : IsiT X.K T3) (hg : Gl X "isinstance") (hm : X.mg "isinstance" = none) (hv : bootBuiltins "isinstance" = some (.builtin "isinstance"))
    (hg1 : Gl X x1) (hm1 : X.mg x1 = none) (hv1 : bootBuiltins x1 = some (.type T1)) (hg2 : Gl X x2) (hm2 : X.mg x2 = none) (hv2 : bootBuiltins x2 = some (.type T2)) (hg3 : Gl X x3) (hm3 : X.mg x3 = none) (hv3 : bootBuiltins x3 = some (.type T3)) (ha : DE X own a fa)
    (hn1 : x1 ≠ "__name__" := by decide) (hd1 : (x1 == ("__debug__" : Str)) = false := by decide) (hn2 : x2 ≠ "__name__" := by decide) (hd2 : (x2 == ("__debug__" : Str)) = false := by decide) (hn3 : x3 ≠ "__name__" := by decide) (hd3 : (x3 == ("__debug__" : Str)) = false := by decide)
    (he : starEach [a, .Tuple [.Name x1 p1, .Name x2 p3, .Name x3 p4] n1 p5] X.env = (false, eval a X.env) :: starEach [.Tuple [.Name x1 p1, .Name x2 p3, .Name x3 p4] n1 p5] X.env := by rfl)
    (he2 : starEach [.Tuple [.Name x1 p1, .Name x2 p3, .Name x3 p4] n1 p5] X.env = (false, eval (.Tuple [.Name x1 p1, .Name x2 p3, .Name x3 p4] n1 p5) X.env) :: starEach [] X.env := by rfl)
    (hpl : (backTo pos (starEach [.Tuple [.Name x1 p1, .Name x2 p3, .Name x3 p4] n1 p5] X.env)).any (·.1) = false := by rfl) :
    DE X own (.Call (.Name "isinstance" p) [a, .Tuple [.Name x1 p1, .Name x2 p3, .Name x3 p4] n1 p5] [] pos) (fIsiT [T1, T2, T3] fa) :=
  de_of (pe_callB (r := rIsiT X.K [T1, T2, T3]) call_isiT hg hm hv (pa_cons ha.ok (pa_cons (pe_tup (pa_cons (pe_bltn (v := V.ty T1) hg1 hm1 hv1 rfl hn1 hd1) (pa_cons (pe_bltn (v := V.ty T2) hg2 hm2 hv2 rfl hn2 hd2) (pa_cons (pe_bltn (v := V.ty T3) hg3 hm3 hv3 rfl hn3 hd3) pa_nil rfl) rfl) rfl)) pa_nil he2) he) (by decide) (by decide) he hpl) fun σ G H Q ρ d er e k => by
    obtain ⟨x, e1, e⟩ := Option.bind_eq_some_iff.mp e
    obtain ⟨b, e2, e⟩ := Option.bind_eq_some_iff.mp e
    split at e
    · rename_i hnf
      cases e
      refine ⟨G, ρ, x, er, e1, fun v G1 H1 s1 r1 => ⟨by show 3 ≤ sizeLine; rw [sizeLine_eq]; decide, fun p hp => ?_⟩⟩
      have s2 := Ext.laid (o := .tup [V.ty T1, V.ty T2, V.ty T3]) s1.sub hp
      refine ⟨v, x, b, p, rfl, .inl (.inl upd_same), (r1.mono s2.g).mono s2.sub, isi_any (fun T hT => ?_) e2, fun a z => (by subst z; cases hnf), fun a z => (by subst z; cases hnf), k _ _ _ (s1.trans s2) Rep.bl⟩
      simp only [List.mem_cons, List.not_mem_nil, or_false] at hT
      rcases hT with rfl | rfl | rfl
      · exact ht1
      · exact ht2
      · exact ht3
    · cases e
end
end DL
set_option maxRecDepth 100000
set_option maxHeartbeats 1000000
namespace TX
open PySem Builtin.Str
def consH (x : Nat) : List (List Nat) → List (List Nat)
  | w :: ws => (x :: w) :: ws
  | [] => [[x]]
def consP (p : List Nat) : List (List Nat) → List (List Nat)
  | w :: ws => (p ++ w) :: ws
  | [] => [p]
def cutC (c : Nat) : Nat → List Nat → List (List Nat)
  | _, [] => [[]]
  | n, x :: xs => if x = c then (match n with | 0 => consH x (cutC c 0 xs) | m + 1 => [] :: cutC c m xs) else consH x (cutC c n xs)
def posL (c : Nat) : List Nat → Nat → Nat → List Nat
  | [], _, _ => []
  | x :: xs, i, n => if x = c then (match n with | 0 => posL c xs (i + 1) 0 | m + 1 => i :: posL c xs (i + 1) m) else posL c xs (i + 1) n
theorem posL_zero (c : Nat) : ∀ (xs : List Nat) (i : Nat), posL c xs i 0 = []
  | [], _ => rfl
  | x :: xs, i => by
    unfold posL
    split <;> exact posL_zero c xs _
theorem posL_eq {c x m i : Nat} {xs : List Nat} (h : x = c) : posL c (x :: xs) i (m + 1) = i :: posL c xs (i + 1) m := by
  conv => lhs; unfold posL
  rw [if_pos h]
theorem posL_ne {c x n i : Nat} {xs : List Nat} (h : ¬ x = c) : posL c (x :: xs) i n = posL c xs (i + 1) n := by
  conv => lhs; unfold posL
  rw [if_neg h]
theorem cut_ne (c : Nat) : ∀ (n : Nat) (xs : List Nat), cutC c n xs ≠ []
  | _, [] => by simp [cutC]
  | n, x :: xs => by
    unfold cutC
    have h : ∀ l, consH x l ≠ [] := fun l => by cases l <;> simp [consH]
    split
    · split
      · exact h _
      · simp
    · exact h _
theorem consP_nil {l : List (List Nat)} (h : l ≠ []) : consP [] l = l := by
  cases l with
  | nil => exact absurd rfl h
  | cons w ws => rfl
theorem consP_H (p : List Nat) (x : Nat) (l : List (List Nat)) : consP (p ++ [x]) l = consP p (consH x l) := by
  cases l <;> simp [consP, consH]
theorem subAt_one (s : Str) (c i : Nat) (h : i < s.length) : subAt s ⟨#[c]⟩ i = decide (s.cps.toList[i]? = some c) := by
  have hs : i < s.cps.size := h
  have e : s.cps.extract i (i + 1) = #[s.cps[i]] := by
    apply Array.ext
    · simp; omega
    · intro j h1 h2
      simp at h2
      subst h2
      simp
  unfold subAt
  have hl : (⟨#[c]⟩ : Str).length = 1 := rfl
  rw [hl, e]
  have e2 : s.cps.toList[i]? = some s.cps[i] := by simp [hs]
  rw [e2]
  by_cases hc : s.cps[i] = c
  · simp [hc]
  · simp [hc]
theorem occ_loop (s : Str) (c lim : Nat) : ∀ (n i : Nat) (found : Array Nat) (free : Nat), i + n = s.length + 1 → free ≤ i → found.size ≤ lim →
    (forIn (m := Id) (List.range' i n) (found, free) (StrLaws.occBody s ⟨#[c]⟩ s.length lim)).run.fst.toList = found.toList ++ posL c (s.cps.toList.drop i) i (lim - found.size)
  | 0, i, found, free, h, hf, hs => by
    have : s.cps.toList.drop i = [] := by
      apply List.drop_eq_nil_of_le
      have : s.cps.toList.length = s.length := by simp [Str.length]
      omega
    rw [this]
    simp [posL]
  | n + 1, i, found, free, h, hf, hs => by
    have hl : s.cps.toList.length = s.length := by simp [Str.length]
    rw [List.range'_succ, List.forIn_cons]
    by_cases hi : i < s.length
    · have hd : s.cps.toList.drop i = s.cps.toList[i]'(by omega) :: s.cps.toList.drop (i + 1) := List.drop_eq_getElem_cons (by omega)
      have hg : s.cps.toList[i]? = some (s.cps.toList[i]'(by omega)) := by simp
      have hsub := subAt_one s c i hi
      rw [hd]
      by_cases hc : s.cps.toList[i]'(by omega) = c
      · have hst : subAt s ⟨#[c]⟩ i = true := by rw [hsub, hg, hc]; simp
        by_cases hlim : found.size < lim
        · have cond : ((found.size < lim ∧ free ≤ i) ∧ i + (⟨#[c]⟩ : Str).length ≤ s.length) ∧ subAt s ⟨#[c]⟩ i = true := ⟨⟨⟨hlim, hf⟩, by show i + 1 ≤ _; omega⟩, hst⟩
          have ih := occ_loop s c lim n (i + 1) (found.push i) (i + 1) (by omega) (Nat.le_refl _) (by rw [Array.size_push]; omega)
          unfold StrLaws.occBody
          rw [if_pos cond]
          unfold StrLaws.occBody at ih
          refine Eq.trans ih ?_
          rw [Array.size_push, Array.toList_push]
          obtain ⟨m, hm⟩ : ∃ m, lim - found.size = m + 1 := ⟨lim - found.size - 1, by omega⟩
          rw [hm, show lim - (found.size + 1) = m by omega, posL_eq hc]
          simp
        · have cond : ¬ (((found.size < lim ∧ free ≤ i) ∧ i + (⟨#[c]⟩ : Str).length ≤ s.length) ∧ subAt s ⟨#[c]⟩ i = true) := fun z => hlim z.1.1.1
          have ih := occ_loop s c lim n (i + 1) found free (by omega) (by omega) hs
          unfold StrLaws.occBody
          rw [if_neg cond]
          unfold StrLaws.occBody at ih
          refine Eq.trans ih ?_
          rw [show lim - found.size = 0 by omega, posL_zero, posL_zero]
      · have hst : ¬ subAt s ⟨#[c]⟩ i = true := by
          rw [hsub, hg]
          intro z
          exact hc (Option.some.inj (of_decide_eq_true z))
        have cond : ¬ (((found.size < lim ∧ free ≤ i) ∧ i + (⟨#[c]⟩ : Str).length ≤ s.length) ∧ subAt s ⟨#[c]⟩ i = true) := fun z => hst z.2
        have ih := occ_loop s c lim n (i + 1) found free (by omega) (by omega) hs
        unfold StrLaws.occBody
        rw [if_neg cond]
        unfold StrLaws.occBody at ih
        refine Eq.trans ih ?_
        rw [posL_ne hc]
    · have hd : s.cps.toList.drop i = [] := List.drop_eq_nil_of_le (by omega)
      have cond : ¬ (((found.size < lim ∧ free ≤ i) ∧ i + (⟨#[c]⟩ : Str).length ≤ s.length) ∧ subAt s ⟨#[c]⟩ i = true) := fun z => by have := z.1.2; have e : (⟨#[c]⟩ : Str).length = 1 := rfl; omega
      have ih := occ_loop s c lim n (i + 1) found free (by omega) (by omega) hs
      unfold StrLaws.occBody
      rw [if_neg cond]
      unfold StrLaws.occBody at ih
      refine Eq.trans ih ?_
      have hd' : s.cps.toList.drop (i + 1) = [] := List.drop_eq_nil_of_le (by omega)
      rw [hd, hd']
      simp [posL]
theorem occ_one (s : Str) (c lim : Nat) : occurrences s ⟨#[c]⟩ 0 s.length lim = posL c s.cps.toList 0 lim := by
  rw [StrLaws.occ_eq]
  have := occ_loop s c lim (s.length + 1) 0 #[] 0 (by omega) (Nat.le_refl _) (Nat.zero_le _)
  simpa using this
def partsN (cs : List Nat) (start : Nat) (cuts : List Nat) : List (List Nat) := ((start :: cuts.map (· + 1)).zip (cuts ++ [cs.length])).map fun (i, j) => (cs.drop i).take (j - i)
theorem partsN_nil (cs : List Nat) (start : Nat) : partsN cs start [] = [(cs.drop start).take (cs.length - start)] := rfl
theorem partsN_cons (cs : List Nat) (start i : Nat) (cuts : List Nat) : partsN cs start (i :: cuts) = (cs.drop start).take (i - start) :: partsN cs (i + 1) cuts := rfl
theorem parts_cut (c : Nat) (cs : List Nat) : ∀ (ys : List Nat) (i start n : Nat), cs.drop i = ys → i ≤ cs.length → start ≤ i → partsN cs start (posL c ys i n) = consP ((cs.drop start).take (i - start)) (cutC c n ys)
  | [], i, start, n, h, hi, hs => by
    have hl : cs.length ≤ i := by
      have := congrArg List.length h
      simp at this; omega
    have e : i = cs.length := by omega
    subst e
    simp [posL, partsN_nil, cutC, consP]
  | y :: ys, i, start, n, h, hi, hs => by
    have hlt : i < cs.length := by
      have := congrArg List.length h
      simp at this; omega
    have h' : cs.drop (i + 1) = ys := by
      rw [← List.tail_drop, h]; rfl
    have hy : cs[i]? = some y := by
      have := congrArg (fun l => l[0]?) h
      simpa using this
    have step : (cs.drop start).take (i + 1 - start) = (cs.drop start).take (i - start) ++ [y] := by
      have e : i + 1 - start = (i - start) + 1 := by omega
      rw [e, List.take_add_one]
      congr 1
      rw [List.getElem?_drop, show start + (i - start) = i by omega, hy]
      rfl
    unfold posL cutC
    by_cases hc : y = c
    · rw [if_pos hc, if_pos hc]
      cases n with
      | zero =>
        have ih := parts_cut c cs ys (i + 1) start 0 h' (by omega) (by omega)
        show partsN cs start (posL c ys (i + 1) 0) = consP _ (consH y (cutC c 0 ys))
        rw [ih, step, consP_H]
      | succ m =>
        have ih := parts_cut c cs ys (i + 1) (i + 1) m h' (by omega) (Nat.le_refl _)
        show partsN cs start (i :: posL c ys (i + 1) m) = consP _ ([] :: cutC c m ys)
        rw [partsN_cons, ih, Nat.sub_self, List.take_zero, consP_nil (cut_ne c m ys)]
        simp [consP]
    · rw [if_neg hc, if_neg hc]
      have ih := parts_cut c cs ys (i + 1) start n h' (by omega) (by omega)
      rw [ih, step, consP_H]
def mk (w : List Nat) : Str := ⟨w.toArray⟩
theorem parts_one (s : Str) (c lim : Nat) : partsBetween s (occurrences s ⟨#[c]⟩ 0 s.length lim) 1 = (cutC c lim s.cps.toList).map mk := by
  have h := parts_cut c s.cps.toList s.cps.toList 0 0 lim rfl (Nat.zero_le _) (Nat.le_refl _)
  rw [Nat.sub_self, List.take_zero, consP_nil (cut_ne c lim _)] at h
  rw [← h, occ_one]
  unfold partsBetween partsN
  simp only [List.map_map]
  have hl : s.cps.toList.length = s.length := by simp [Str.length]
  rw [hl]
  apply List.map_congr_left
  rintro ⟨i, j⟩ _
  show strSub s i j = mk ((s.cps.toList.drop i).take (j - i))
  unfold strSub mk
  congr 1
  apply Array.toList_inj.mp
  simp [List.extract_eq_drop_take]
end TX
set_option maxRecDepth 100000
set_option maxHeartbeats 1000000
namespace TX
open PySem Builtin.Str
def joinL (c : Nat) : List (List Nat) → List Nat
  | [] => []
  | [w] => w
  | w :: ws => w ++ c :: joinL c ws
theorem joinL_cons {c : Nat} {w : List Nat} {ws : List (List Nat)} (h : ws ≠ []) : joinL c (w :: ws) = w ++ c :: joinL c ws := by
  cases ws with
  | nil => exact absurd rfl h
  | cons v vs => rfl
theorem fold_join (c : Nat) : ∀ (ws : List (List Nat)) (acc : Array Nat), (ws.map mk).foldl (fun acc p => acc ++ (⟨#[c]⟩ : Str).cps ++ p.cps) acc = acc ++ (ws.map fun w => c :: w).flatten.toArray
  | [], acc => by simp
  | w :: ws, acc => by
    rw [List.map_cons, List.foldl_cons, fold_join c ws]
    apply Array.toList_inj.mp
    simp [mk]
theorem joinL_flat (c : Nat) : ∀ (w : List Nat) (ws : List (List Nat)), joinL c (w :: ws) = w ++ (ws.map fun w => c :: w).flatten
  | w, [] => by simp [joinL]
  | w, v :: vs => by
    rw [joinL_cons (by simp), joinL_flat c v vs]
    simp
theorem join_mk (c : Nat) (ws : List (List Nat)) : Txt.join ⟨#[c]⟩ (ws.map mk) = mk (joinL c ws) := by
  unfold Txt.join glued
  cases ws with
  | nil => rfl
  | cons w ws =>
    simp only [List.map_cons, List.drop_succ_cons, List.drop_zero, List.headD_cons]
    rw [fold_join, joinL_flat]
    unfold mk
    congr 1
    apply Array.toList_inj.mp
    simp
theorem cut_free {c : Nat} : ∀ {w : List Nat} (n : Nat), c ∉ w → cutC c n w = [w]
  | [], n, _ => by simp [cutC]
  | x :: w, n, h => by
    simp only [List.mem_cons, not_or] at h
    unfold cutC
    rw [if_neg (fun z => h.1 z.symm), cut_free n h.2]
    rfl
theorem cut_zero {c : Nat} : ∀ (w : List Nat), cutC c 0 w = [w]
  | [] => by simp [cutC]
  | x :: w => by
    unfold cutC
    have ih := cut_zero (c := c) w
    by_cases hc : x = c
    · rw [if_pos hc, ih]; rfl
    · rw [if_neg hc, ih]; rfl
theorem cut_at {c n : Nat} : ∀ {w : List Nat} (ys : List Nat), c ∉ w → cutC c (n + 1) (w ++ c :: ys) = w :: cutC c n ys
  | [], ys, _ => by
    show cutC c (n + 1) (c :: ys) = _
    conv => lhs; unfold cutC
    rw [if_pos rfl]
  | x :: w, ys, h => by
    simp only [List.mem_cons, not_or] at h
    show cutC c (n + 1) (x :: (w ++ c :: ys)) = _
    conv => lhs; unfold cutC
    rw [if_neg (fun z => h.1 z.symm), cut_at ys h.2]
    rfl
theorem cut_join {c : Nat} : ∀ (pre : List (List Nat)) (last : List Nat) (n : Nat), (∀ w ∈ pre, c ∉ w) → pre.length ≤ n → (c ∉ last ∨ pre.length = n) → cutC c n (joinL c (pre ++ [last])) = pre ++ [last]
  | [], last, n, _, _, hl => by
    show cutC c n last = [last]
    rcases hl with h | h
    · exact cut_free n h
    · have e : n = 0 := h.symm
      subst e
      exact cut_zero last
  | w :: pre, last, n, hp, hn, hl => by
    obtain ⟨m, rfl⟩ : ∃ m, n = m + 1 := ⟨n - 1, by simp at hn; omega⟩
    rw [List.cons_append, joinL_cons (by simp), cut_at _ (hp w List.mem_cons_self), cut_join pre last m (fun v hv => hp v (List.mem_cons_of_mem _ hv)) (by simp at hn; omega) (hl.imp id fun z => by simp at z; omega)]
theorem split_join {c lim : Nat} {pre : List (List Nat)} {last : List Nat} (hp : ∀ w ∈ pre, c ∉ w) (hn : pre.length ≤ lim) (hl : c ∉ last ∨ pre.length = lim) (hc : c < 256) :
    DL.splitL (mk (joinL c (pre ++ [last]))) ⟨#[c]⟩ lim = (pre ++ [last]).map mk := by
  have hcut := cut_join pre last lim hp hn hl
  have hpar := parts_one (mk (joinL c (pre ++ [last]))) c lim
  have e1 : (mk (joinL c (pre ++ [last]))).cps.toList = joinL c (pre ++ [last]) := by simp [mk]
  rw [e1, hcut] at hpar
  have hone : (⟨#[c]⟩ : Str).length = 1 := rfl
  unfold DL.splitL
  rw [hone]
  split
  · rename_i h
    -- it cannot occur: then nothing was ahead
    have hk : strKind (⟨#[c]⟩ : Str) = 1 := by
      unfold Builtin.Str.strKind
      simp [hc]
    rw [Bool.or_eq_true, decide_eq_true_eq, decide_eq_true_eq, hk] at h
    have hk2 : 1 ≤ strKind (mk (joinL c (pre ++ [last]))) := by
      unfold Builtin.Str.strKind
      split
      · exact Nat.le_refl _
      · split <;> decide
    have h0 : (mk (joinL c (pre ++ [last]))).length < 1 := by
      rcases h with h | h
      · exact h
      · omega
    have hj : joinL c (pre ++ [last]) = [] := by
      have : (joinL c (pre ++ [last])).length < 1 := by simpa [mk, Str.length] using h0
      exact List.eq_nil_of_length_eq_zero (by omega)
    rw [hj] at hcut
    have : pre ++ [last] = [[]] := by rw [← hcut]; simp [cutC]
    rw [this]
    rfl
  · split
    · rename_i h
      rw [List.isEmpty_iff] at h
      rw [← hpar, h]
      unfold partsBetween
      simp [strSub, mk, Str.length]
    · exact hpar
theorem in_one (s : Str) (c : Nat) : (!(occurrences s ⟨#[c]⟩ 0 s.length 1).isEmpty) = decide (c ∈ s.cps.toList) := by
  rw [occ_one]
  generalize s.cps.toList = xs
  have : ∀ (xs : List Nat) (i : Nat), (!(posL c xs i 1).isEmpty) = decide (c ∈ xs) := by
    intro xs
    induction xs with
    | nil => intro i; simp [posL]
    | cons x xs ih =>
      intro i
      by_cases hc : x = c
      · rw [posL_eq hc]; simp [hc]
      · rw [posL_ne hc, ih]
        simp [show ¬ c = x from fun z => hc z.symm]
  exact this xs 0
end TX
set_option maxRecDepth 100000
set_option maxHeartbeats 1000000
namespace TX
open PySem Builtin.Str NumText PyProof.Rows PySem.W
def intC (i : Int) : List Nat := (Str.ofString (toString i)).cps.toList
theorem mk_intC (i : Int) : mk (intC i) = Str.ofString (toString i) := by
  unfold mk intC
  simp
def numC (m : Nat) : List Nat := (Nat.toDigits 10 m).map Char.toNat
theorem intC_nat (m : Nat) : intC (m : Int) = numC m := KIN.signs_num m
theorem intC_neg (m : Nat) : intC (Int.negSucc m) = 45 :: numC (m + 1) := by
  unfold intC numC
  rw [signs_ofString]
  show ("-" ++ Nat.repr (m + 1)).toList.map Char.toNat = _
  rw [String.toList_append, List.map_append, Nat.toList_repr]
  rfl
theorem numC_digits (m : Nat) : AllDigits (numC m) := by
  intro c hc
  obtain ⟨ch, hch, e⟩ := List.mem_map.mp hc
  have r := digit_range (Nat.isDigit_of_mem_toDigits (by decide) (by decide) hch)
  rw [← e]
  exact r
theorem numC_ne (m : Nat) : numC m ≠ [] := by
  intro e
  have h := toDigits_len_ge 10 m
  rw [List.map_eq_nil_iff.mp e] at h
  exact absurd h (by decide)
theorem numC_len {m : Nat} (h : m < 10 ^ 61) : (numC m).length ≤ 61 := by
  unfold numC
  rw [List.length_map]
  exact toDigits_len_pow (by decide) (by decide) h
theorem numC_val (m : Nat) : digitsVal (numC m) = m := KIN.val_back m
theorem intC_signs (i : Int) : ∀ c ∈ intC i, c = 45 ∨ (48 ≤ c ∧ c ≤ 57) := by
  intro c hc
  cases i with
  | ofNat m =>
    have hc : c ∈ numC m := by rw [← intC_nat]; exact hc
    exact .inr (numC_digits m c hc)
  | negSucc m =>
    rw [intC_neg] at hc
    rcases List.mem_cons.mp hc with rfl | hc
    · exact .inl rfl
    · exact .inr (numC_digits _ c hc)
theorem intC_len {i : Int} (h : i.natAbs < 10 ^ 61) : (intC i).length ≤ 62 := by
  cases i with
  | ofNat m =>
    have := numC_len (m := m) h
    rw [show intC (Int.ofNat m) = numC m from intC_nat m]
    omega
  | negSucc m =>
    have := numC_len (m := m + 1) h
    rw [intC_neg, List.length_cons]
    omega
theorem intC_ne (i : Int) : intC i ≠ [] ∧ intC i ≠ [45] := by
  cases i with
  | ofNat m =>
    rw [show intC (Int.ofNat m) = numC m from intC_nat m]
    refine ⟨numC_ne m, fun e => ?_⟩
    have := numC_digits m 45 (by rw [e]; simp)
    omega
  | negSucc m =>
    rw [intC_neg]
    refine ⟨by simp, fun e => ?_⟩
    simp only [List.cons.injEq, true_and] at e
    exact numC_ne _ e
theorem intT {i : Int} (h : i.natAbs < 10 ^ 61) : PySem.intText? (mk (intC i)) = some i := by
  have hl := intC_len h
  have hlen : (mk (intC i)).length ≤ 4300 := by
    have : (mk (intC i)).length = (intC i).length := by simp [mk, Str.length]
    omega
  have e1 : (mk (intC i)).cps.toList = intC i := by simp [mk]
  cases i with
  | ofNat m =>
    have e2 : intC (Int.ofNat m) = numC m := intC_nat m
    have := intText_digits (x := mk (intC (Int.ofNat m))) (by rw [e1, e2]; exact numC_digits m) (by rw [e1, e2]; exact numC_ne m) hlen
    rw [e1, e2, numC_val] at this
    rw [e2]; exact this
  | negSucc m =>
    have e2 := intC_neg m
    have := intText_neg (x := mk (intC (Int.negSucc m))) (cs := numC (m + 1)) (by rw [e1, e2]) (numC_digits _) (numC_ne _) hlen
    rw [numC_val] at this
    rw [this]
    rfl
end TX
set_option maxRecDepth 100000
set_option maxHeartbeats 4000000
namespace K02
open PySem L2 DL
def top (i : Nat) : Stmt := PySem.Challenge.pw_manyhands_k02_lines.main.body.getD i (.Pass ⟨0, 0, 0, 0⟩)
abbrev st_is_whole : Stmt := top 8
theorem sc_is_whole : FnScope ["thing"] ["thing"] (defScope st_is_whole) := ⟨rfl, rfl, rfl, by decide +kernel, rfl, by decide +kernel, by decide +kernel⟩
abbrev st_is_below : Stmt := top 9
theorem sc_is_below : FnScope ["thing", "limit"] ["thing", "limit"] (defScope st_is_below) := ⟨rfl, rfl, rfl, by decide +kernel, rfl, by decide +kernel, by decide +kernel⟩
abbrev st_is_from_one : Stmt := top 10
theorem sc_is_from_one : FnScope ["thing"] ["thing"] (defScope st_is_from_one) := ⟨rfl, rfl, rfl, by decide +kernel, rfl, by decide +kernel, by decide +kernel⟩
abbrev st_is_name : Stmt := top 11
theorem sc_is_name : FnScope ["thing"] ["thing"] (defScope st_is_name) := ⟨rfl, rfl, rfl, by decide +kernel, rfl, by decide +kernel, by decide +kernel⟩
abbrev st_is_sign_name : Stmt := top 12
theorem sc_is_sign_name : FnScope ["thing"] ["thing"] (defScope st_is_sign_name) := ⟨rfl, rfl, rfl, by decide +kernel, rfl, by decide +kernel, by decide +kernel⟩
abbrev st_is_item : Stmt := top 13
theorem sc_is_item : FnScope ["thing"] ["thing"] (defScope st_is_item) := ⟨rfl, rfl, rfl, by decide +kernel, rfl, by decide +kernel, by decide +kernel⟩
abbrev st_is_sibling : Stmt := top 14
theorem sc_is_sibling : FnScope ["thing"] ["thing"] (defScope st_is_sibling) := ⟨rfl, rfl, rfl, by decide +kernel, rfl, by decide +kernel, by decide +kernel⟩
abbrev st_is_behind : Stmt := top 15
theorem sc_is_behind : FnScope ["thing"] ["thing"] (defScope st_is_behind) := ⟨rfl, rfl, rfl, by decide +kernel, rfl, by decide +kernel, by decide +kernel⟩
abbrev st_is_sign : Stmt := top 16
theorem sc_is_sign : FnScope ["sign"] ["sign"] (defScope st_is_sign) := ⟨rfl, rfl, rfl, by decide +kernel, rfl, by decide +kernel, by decide +kernel⟩
abbrev st_is_text : Stmt := top 17
theorem sc_is_text : FnScope ["thing"] ["thing"] (defScope st_is_text) := ⟨rfl, rfl, rfl, by decide +kernel, rfl, by decide +kernel, by decide +kernel⟩
abbrev st_is_place : Stmt := top 18
theorem sc_is_place : FnScope ["thing"] ["thing"] (defScope st_is_place) := ⟨rfl, rfl, rfl, by decide +kernel, rfl, by decide +kernel, by decide +kernel⟩
abbrev st_are_parts : Stmt := top 20
theorem sc_are_parts : FnScope ["parts", "checks"] ["parts", "checks"] (defScope st_are_parts) := ⟨rfl, rfl, rfl, by decide +kernel, rfl, by decide +kernel, by decide +kernel⟩
abbrev st_is_deed : Stmt := top 21
theorem sc_is_deed : FnScope ["thing"] ["thing"] (defScope st_is_deed) := ⟨rfl, rfl, rfl, by decide +kernel, rfl, by decide +kernel, by decide +kernel⟩
abbrev st_is_operation : Stmt := top 22
theorem sc_is_operation : FnScope ["thing"] ["thing"] (defScope st_is_operation) := ⟨rfl, rfl, rfl, by decide +kernel, rfl, by decide +kernel, by decide +kernel⟩
abbrev st_word_of : Stmt := top 24
theorem sc_word_of : FnScope ["part"] ["part"] (defScope st_word_of) := ⟨rfl, rfl, rfl, by decide +kernel, rfl, by decide +kernel, by decide +kernel⟩
abbrev st_shown : Stmt := top 25
theorem sc_shown : FnScope ["operation"] ["operation"] (defScope st_shown) := ⟨rfl, rfl, rfl, by decide +kernel, rfl, by decide +kernel, by decide +kernel⟩
abbrev st_number_of : Stmt := top 26
theorem sc_number_of : FnScope ["word", "number"] ["word"] (defScope st_number_of) := ⟨rfl, rfl, rfl, by decide +kernel, rfl, by decide +kernel, by decide +kernel⟩
abbrev st_part_of : Stmt := top 27
theorem sc_part_of : FnScope ["word"] ["word"] (defScope st_part_of) := ⟨rfl, rfl, rfl, by decide +kernel, rfl, by decide +kernel, by decide +kernel⟩
abbrev st_deed_of : Stmt := top 28
theorem sc_deed_of : FnScope ["words", "end"] ["words"] (defScope st_deed_of) := ⟨rfl, rfl, rfl, by decide +kernel, rfl, by decide +kernel, by decide +kernel⟩
abbrev st_read : Stmt := top 29
theorem sc_read : FnScope ["line", "words", "operation"] ["line"] (defScope st_read) := ⟨rfl, rfl, rfl, by decide +kernel, rfl, by decide +kernel, by decide +kernel⟩
abbrev st_Lcell : Stmt := top 31
theorem sc_Lcell : FnScope ["_law_script", "_law_k"] ["_law_script", "_law_k"] (defScope st_Lcell) := ⟨rfl, rfl, rfl, by decide +kernel, rfl, by decide +kernel, by decide +kernel⟩
abbrev st_Lmix : Stmt := top 32
theorem sc_Lmix : FnScope ["_law_script", "_law_k", "_law_number_here"] ["_law_script", "_law_k"] (defScope st_Lmix) := ⟨rfl, rfl, rfl, by decide +kernel, rfl, by decide +kernel, by decide +kernel⟩
abbrev st_Litems : Stmt := top 35
theorem sc_Litems : FnScope ["_law_ops"] ["_law_ops"] (defScope st_Litems) := ⟨rfl, rfl, rfl, by decide +kernel, rfl, by decide +kernel, by decide +kernel⟩
abbrev st_Lsigns : Stmt := top 36
theorem sc_Lsigns : FnScope ["_law_ops", "_law_found", "_law_one", "_law_k"] ["_law_ops"] (defScope st_Lsigns) := ⟨rfl, rfl, rfl, by decide +kernel, rfl, by decide +kernel, by decide +kernel⟩
abbrev st_Ltext : Stmt := top 37
theorem sc_Ltext : FnScope ["_law_number_here", "_law_most", "_law_letters"] ["_law_number_here", "_law_most"] (defScope st_Ltext) := ⟨rfl, rfl, rfl, by decide +kernel, rfl, by decide +kernel, by decide +kernel⟩
abbrev st_Lpick : Stmt := top 38
theorem sc_Lpick : FnScope ["_law_rows", "_law_number_here"] ["_law_rows", "_law_number_here"] (defScope st_Lpick) := ⟨rfl, rfl, rfl, by decide +kernel, rfl, by decide +kernel, by decide +kernel⟩
abbrev st_Ldeed : Stmt := top 39
theorem sc_Ldeed : FnScope ["_law_script", "_law_base", "_law_ops", "_law_most", "_law_number_here", "_law_items_here", "_law_item", "_law_other", "_law_kinds", "_law_kind", "_law_sign", "_law_names"] ["_law_script", "_law_base", "_law_ops", "_law_most"] (defScope st_Ldeed) := ⟨rfl, rfl, rfl, by decide +kernel, rfl, by decide +kernel, by decide +kernel⟩
abbrev st_Lworld : Stmt := top 40
theorem sc_Lworld : FnScope ["_law_script", "_law_base", "_law_many", "_law_ops", "_law_counts", "_law_times", "_law_k", "_law_number_here", "_law_at", "_law_deed_here"] ["_law_script", "_law_base", "_law_many"] (defScope st_Lworld) := ⟨rfl, rfl, rfl, by decide +kernel, rfl, by decide +kernel, by decide +kernel⟩
abbrev st_Lword : Stmt := top 41
theorem sc_Lword : FnScope ["_law_part"] ["_law_part"] (defScope st_Lword) := ⟨rfl, rfl, rfl, by decide +kernel, rfl, by decide +kernel, by decide +kernel⟩
abbrev st_Ltuples : Stmt := top 42
theorem sc_Ltuples : FnScope ["_law_thing"] ["_law_thing"] (defScope st_Ltuples) := ⟨rfl, rfl, rfl, by decide +kernel, rfl, by decide +kernel, by decide +kernel⟩
abbrev st_law : Stmt := top 43
theorem sc_law : FnScope ["_law_script", "_law_ops", "_law_deed_here", "_law_long", "_law_time", "_law_one", "_law_due", "_law_found", "_law_back"] ["_law_script"] (defScope st_law) := ⟨rfl, rfl, rfl, by decide +kernel, rfl, by decide +kernel, by decide +kernel⟩
def q_is_whole : DEnv → Option Fl :=
  (sRet (fAndV (fIsi "int" (fVar 0)) (fAndV (fNotV (fIsi "bool" (fVar 0))) (f2 ltD (f1 absD (aCons (fVar 0) aNil)) (f2 powD (fC (.int 10)) (fC (.int 60)))))))
def g_is_whole : List D → Option D := runQ ["thing"] 1 (q_is_whole)
def q_is_below : DEnv → Option Fl :=
  (sRet (fAndV (f1 g_is_whole (aCons (fVar 0) aNil)) (fChain leB ltD (fC (.int 0)) (fVar 0) (fVar 1))))
def g_is_below : List D → Option D := runQ ["thing", "limit"] 2 (q_is_below)
def q_is_from_one : DEnv → Option Fl :=
  (sRet (fAndV (f1 g_is_whole (aCons (fVar 0) aNil)) (f2 geD (fVar 0) (fC (.int 1)))))
def g_is_from_one : List D → Option D := runQ ["thing"] 1 (q_is_from_one)
def q_is_name : DEnv → Option Fl :=
  (sSeq (sIf (fOr (fNot (fT (fIsi "tuple" (fVar 0)))) (fT (f2 neD (f1 lenD (aCons (fVar 0) aNil)) (fC (.int 2))))) (sRet (fC (.bl false))) sNil)
  (sRet (fAndV (f1 g_is_below (aCons (f2 ixD (fVar 0) (fC (.int 0))) (aCons (fC (.int 16)) aNil))) (f1 g_is_from_one (aCons (f2 ixD (fVar 0) (fC (.int 1))) aNil)))))
def g_is_name : List D → Option D := runQ ["thing"] 1 (q_is_name)
def q_is_sign_name : DEnv → Option Fl :=
  (sSeq (sIf (fOr (fNot (fT (fIsi "tuple" (fVar 0)))) (fT (f2 neD (f1 lenD (aCons (fVar 0) aNil)) (fC (.int 3))))) (sRet (fC (.bl false))) sNil)
  (sRet (fAndV (f1 g_is_name (aCons (fSl (fVar 0) oNone (oSome (fC (.int 2)))) aNil)) (f1 g_is_below (aCons (f2 ixD (fVar 0) (fC (.int 2))) (aCons (fC (.int 16)) aNil))))))
def g_is_sign_name : List D → Option D := runQ ["thing"] 1 (q_is_sign_name)
def q_is_item : DEnv → Option Fl :=
  (sRet (fOrV (f1 g_is_name (aCons (fVar 0) aNil)) (fOrV (f2 eqD' (fVar 0) (fC (.str "root"))) (f2 eqD' (fVar 0) (fC (.str "bin"))))))
def g_is_item : List D → Option D := runQ ["thing"] 1 (q_is_item)
def q_is_sibling : DEnv → Option Fl :=
  (sRet (fOrV (f2 isNonD (fVar 0) (fC .non)) (f1 g_is_name (aCons (fVar 0) aNil))))
def g_is_sibling : List D → Option D := runQ ["thing"] 1 (q_is_sibling)
def q_is_behind : DEnv → Option Fl :=
  (sRet (fOrV (f2 isNonD (fVar 0) (fC .non)) (f1 g_is_sign_name (aCons (fVar 0) aNil))))
def g_is_behind : List D → Option D := runQ ["thing"] 1 (q_is_behind)
def q_is_sign : DEnv → Option Fl :=
  (sRet (fAndV (fChain leB leB (fC (.str " ")) (fVar 0) (fC (.str "~"))) (f2 neD (f1 ordD (aCons (fVar 0) aNil)) (fC (.int 37)))))
def g_is_sign : List D → Option D := runQ ["sign"] 1 (q_is_sign)
def q_is_text : DEnv → Option Fl :=
  (sSeq (sIf (fOr (fNot (fT (fIsi "str" (fVar 0)))) (fNot (fT (fChain leB leB (fC (.int 1)) (f1 lenD (aCons (fVar 0) aNil)) (fC (.int 16)))))) (sRet (fC (.bl false))) sNil)
  (sRet (f1 allD (aCons (fComp 1 [] (iStr (fVar 0)) (bName 0) (fun _ => some true) (f1 g_is_sign (aCons (fVar 0) aNil))) aNil))))
def g_is_text : List D → Option D := runQ ["thing"] 1 (q_is_text)
def q_is_place : DEnv → Option Fl :=
  (sRet (f1 g_is_below (aCons (fVar 0) (aCons (fC (.int 4)) aNil))))
def g_is_place : List D → Option D := runQ ["thing"] 1 (q_is_place)
structure Adr where
  mk ::
  is_item : Addr
  is_sibling : Addr
  is_behind : Addr
  is_text : Addr
  is_sign_name : Addr
  is_from_one : Addr
  is_place : Addr
  is_whole : Addr
  is_name : Addr
def tab_PARTS (t : Adr) : List (Str × D) := [("put", .tup [.fn t.is_item, .fn t.is_sibling]), ("move", .tup [.fn t.is_item, .fn t.is_item, .fn t.is_sibling]), ("drop", .tup [.fn t.is_item]), ("write", .tup [.fn t.is_item, .fn t.is_behind, .fn t.is_text]), ("cut", .tup [.fn t.is_item, .fn t.is_sign_name, .fn t.is_from_one]), ("set", .tup [.fn t.is_item, .fn t.is_place, .fn t.is_whole]), ("undo", .tup [.fn t.is_name]), ("redo", .tup [.fn t.is_name])]
def ftab (t : Adr) : Addr → Option (List D → Option D) := fun a => if a = t.is_item then some g_is_item else if a = t.is_sibling then some g_is_sibling else if a = t.is_behind then some g_is_behind else if a = t.is_text then some g_is_text else if a = t.is_sign_name then some g_is_sign_name else if a = t.is_from_one then some g_is_from_one else if a = t.is_place then some g_is_place else if a = t.is_whole then some g_is_whole else if a = t.is_name then some g_is_name else none
def q_are_parts (t : Adr) : DEnv → Option Fl :=
  (sSeq (sIf (fT (f2 neD (f1 lenD (aCons (fVar 0) aNil)) (f1 lenD (aCons (fVar 1) aNil)))) (sRet (fC (.bl false))) sNil)
  (sRet (f1 allD (aCons (fComp 2 [] (iZip (fVar 1) (fVar 0)) (bPair 0 1) (fun _ => some true) (fCallV (ftab t) 0 (aCons (fVar 1) aNil))) aNil))))
def g_are_parts (t : Adr) : List D → Option D := runQ ["parts", "checks"] 2 (q_are_parts t)
def q_is_deed (t : Adr) : DEnv → Option Fl :=
  (sSeq (sIf (fOr (fNot (fT (fIsi "tuple" (fVar 0)))) (fT (f2 eqD' (f1 lenD (aCons (fVar 0) aNil)) (fC (.int 0))))) (sRet (fC (.bl false))) sNil)
  (sSeq (sIf (fOr (fNot (fT (fIsi "str" (f2 ixD (fVar 0) (fC (.int 0)))))) (fT (gInD (tab_PARTS t) true (f2 ixD (fVar 0) (fC (.int 0)))))) (sRet (fC (.bl false))) sNil)
  (sSeq (sIf (fNot (fT (f1 (g_are_parts t) (aCons (fSl (fVar 0) (oSome (fC (.int 1))) oNone) (aCons (gGetD (tab_PARTS t) (f2 ixD (fVar 0) (fC (.int 0)))) aNil))))) (sRet (fC (.bl false))) sNil)
  (sRet (fOrV (f2 neD (f2 ixD (fVar 0) (fC (.int 0))) (fC (.str "cut"))) (f2 leB (f2 addD (f2 ixD (f2 ixD (fVar 0) (fC (.int 2))) (fC (.int 2))) (f2 ixD (fVar 0) (fC (.int 3)))) (fC (.int 16))))))))
def g_is_deed (t : Adr) : List D → Option D := runQ ["thing"] 1 (q_is_deed t)
def q_is_operation (t : Adr) : DEnv → Option Fl :=
  (sSeq (sIf (fOr (fNot (fT (fIsi "tuple" (fVar 0)))) (fT (f2 neD (f1 lenD (aCons (fVar 0) aNil)) (fC (.int 4))))) (sRet (fC (.bl false))) sNil)
  (sRet (fAndV (f1 g_is_name (aCons (fSl (fVar 0) oNone (oSome (fC (.int 2)))) aNil)) (fAndV (f1 g_is_from_one (aCons (f2 ixD (fVar 0) (fC (.int 2))) aNil)) (f1 (g_is_deed t) (aCons (f2 ixD (fVar 0) (fC (.int 3))) aNil))))))
def g_is_operation (t : Adr) : List D → Option D := runQ ["thing"] 1 (q_is_operation t)
def q_word_of : DEnv → Option Fl :=
  (sSeq (sIf (fT (f2 isNonD (fVar 0) (fC .non))) (sRet (fC (.str "-"))) sNil)
  (sSeq (sIf (fT (fIsi "tuple" (fVar 0))) (sRet (fJoin (fC (.str ".")) (fComp 1 [] (iTup (fVar 0)) (bName 0) (fun _ => some true) (f1 strD (aCons (fVar 0) aNil))))) sNil)
  (sRet (f1 strD (aCons (fVar 0) aNil)))))
def g_word_of : List D → Option D := runQ ["part"] 1 (q_word_of)
def q_shown : DEnv → Option Fl :=
  (sRet (fJoin (fC (.str " ")) (fComp 1 [] (iTup (f2 addD (fSl (fVar 0) oNone (oSome (fC (.int 3)))) (f2 ixD (fVar 0) (fC (.int 3))))) (bName 0) (fun _ => some true) (f1 g_word_of (aCons (fVar 0) aNil)))))
def g_shown : List D → Option D := runQ ["operation"] 1 (q_shown)
def q_number_of : DEnv → Option Fl :=
  (sSeq (sSet 1 (f1 intD1 (aCons (fVar 0) aNil)))
  (sRet (fVar 1)))
def g_number_of : List D → Option D := runQ ["word", "number"] 1 (q_number_of)
def q_part_of : DEnv → Option Fl :=
  (sSeq (sIf (fT (f2 eqD' (fVar 0) (fC (.str "-")))) (sRet (fC .non)) sNil)
  (sSeq (sIf (fOr (fT (f2 eqD' (fVar 0) (fC (.str "root")))) (fT (f2 eqD' (fVar 0) (fC (.str "bin"))))) (sRet (fVar 0)) sNil)
  (sSeq (sIf (fT (f2 inB (fC (.str ".")) (fVar 0))) (sRet (f1 tupleD (aCons (fComp 1 [] (iLst (fSplit1 (fVar 0) (fC (.str ".")))) (bName 0) (fun _ => some true) (f1 g_number_of (aCons (fVar 0) aNil))) aNil))) sNil)
  (sRet (f1 g_number_of (aCons (fVar 0) aNil))))))
def g_part_of : List D → Option D := runQ ["word"] 1 (q_part_of)
def q_deed_of : DEnv → Option Fl :=
  (sSeq (sSet 1 (fIf (fT (f2 eqD' (fSl (fVar 0) oNone (oSome (fC (.int 1)))) (fC (.lst [(.str "write")])))) (fC (.int 3)) (f1 lenD (aCons (fVar 0) aNil))))
  (sRet (f1 tupleD (aCons (f2 addD (f2 addD (fSl (fVar 0) oNone (oSome (fC (.int 1)))) (fComp 1 [] (iLst (fSl (fVar 0) (oSome (fC (.int 1))) (oSome (fVar 1)))) (bName 0) (fun _ => some true) (f1 g_part_of (aCons (fVar 0) aNil)))) (fSl (fVar 0) (oSome (fVar 1)) oNone)) aNil))))
def g_deed_of : List D → Option D := runQ ["words", "end"] 1 (q_deed_of)
def q_read (t : Adr) : DEnv → Option Fl :=
  (sSeq (sSet 1 (fSplit2 (fVar 0) (fC (.str " ")) (fC (.int 6))))
  (sSeq (sSet 2 (f1 tupleD (aCons (f2 addD (fComp 1 [] (iLst (fSl (fVar 1) oNone (oSome (fC (.int 3))))) (bName 0) (fun _ => some true) (f1 g_number_of (aCons (fVar 0) aNil))) (fLst (aCons (f1 g_deed_of (aCons (fSl (fVar 1) (oSome (fC (.int 3))) oNone) aNil)) aNil))) aNil)))
  (sSeq (sIf (fOr (fNot (fT (f1 (g_is_operation t) (aCons (fVar 2) aNil)))) (fT (f2 neD (f1 g_shown (aCons (fVar 2) aNil)) (fVar 0)))) (fun _ => none) sNil)
  (sRet (fVar 2)))))
def g_read (t : Adr) : List D → Option D := runQ ["line", "words", "operation"] 1 (q_read t)
def q_Lcell : DEnv → Option Fl :=
  (sSeq (sIf (fun ρ => ((fVar 0) ρ).bind truD) (sRet (f2 ixD (fVar 0) (f2 modD (fVar 1) (f1 lenD (aCons (fVar 0) aNil))))) sNil)
  (sRet (fC (.int 0))))
def g_Lcell : List D → Option D := runQ ["_law_script", "_law_k"] 2 (q_Lcell)
def q_Lmix : DEnv → Option Fl :=
  (sSeq (sSet 2 (f2 modD (f2 addD (f1 g_Lcell (aCons (fVar 0) (aCons (fVar 1) aNil))) (f2 mulD (fC (.int 104729)) (f2 addD (fVar 1) (fC (.int 1))))) (fC (.int 4294967291))))
  (sSeq (sSet 2 (f2 modD (f2 mulD (fVar 2) (fC (.int 48271))) (fC (.int 4294967279))))
  (sRet (f2 modD (f2 addD (f2 mulD (f2 fdivD (fVar 2) (fC (.int 64))) (fC (.int 69621))) (fVar 2)) (fC (.int 4294967231))))))
def g_Lmix : List D → Option D := runQ ["_law_script", "_law_k", "_law_number_here"] 2 (q_Lmix)
def q_Litems : DEnv → Option Fl :=
  (sRet (f2 addD (f2 addD (fC (.lst [(.str "root")])) (fComp 1 [] (iLst (fVar 0)) (bName 0) (fT (f2 eqD' (f2 ixD (f2 ixD (fVar 0) (fC (.int 3))) (fC (.int 0))) (fC (.str "put")))) (fTup (aCons (f2 ixD (fVar 0) (fC (.int 0))) (aCons (f2 ixD (fVar 0) (fC (.int 1))) aNil))))) (fC (.lst [(.str "bin"), (.tup [(.int 9), (.int 9)])]))))
def g_Litems : List D → Option D := runQ ["_law_ops"] 1 (q_Litems)
def q_Lsigns : DEnv → Option Fl :=
  (sSeq (sNew 1 (aCons (fC .non) (aCons (fC (.tup [(.int 9), (.int 9), (.int 3)])) aNil)))
  (sSeq (sFor (iLst (fVar 0)) (bSet 2) (sIf (fT (f2 eqD' (f2 ixD (f2 ixD (fVar 2) (fC (.int 3))) (fC (.int 0))) (fC (.str "write")))) (sFor (iRng (f1 lenD (aCons (f2 ixD (f2 ixD (fVar 2) (fC (.int 3))) (fC (.int 3))) aNil))) (bSet 3) (sApp 1 (fTup (aCons (f2 ixD (fVar 2) (fC (.int 0))) (aCons (f2 ixD (fVar 2) (fC (.int 1))) (aCons (fVar 3) aNil)))))) sNil))
  (sRet (fVar 1))))
def g_Lsigns : List D → Option D := runQ ["_law_ops", "_law_found", "_law_one", "_law_k"] 1 (q_Lsigns)
def q_Ltext : DEnv → Option Fl :=
  (sSeq (sSet 2 (fC (.str " abcXYZ.,;!019~[]\\\"'|{}<>@#$&*()-+/=_^:?`")))
  (sRet (fJoin (fC (.str "")) (fComp 1 [0, 2] (iRng (f2 addD (fC (.int 1)) (f2 modD (fVar 0) (fVar 1)))) (bName 0) (fun _ => some true) (f2 ixD (fVar 2) (f2 modD (f2 fdivD (fVar 1) (f2 addD (fC (.int 1)) (f2 mulD (fC (.int 3)) (fVar 0)))) (fC (.int 41))))))))
def g_Ltext : List D → Option D := runQ ["_law_number_here", "_law_most", "_law_letters"] 2 (q_Ltext)
def q_Lpick : DEnv → Option Fl :=
  (sRet (f2 ixD (fVar 0) (f2 modD (fVar 1) (f1 lenD (aCons (fVar 0) aNil)))))
def g_Lpick : List D → Option D := runQ ["_law_rows", "_law_number_here"] 2 (q_Lpick)
def q_Ldeed : DEnv → Option Fl :=
  (sSeq (sSet 4 (f1 g_Lmix (aCons (fVar 0) (aCons (fVar 1) aNil))))
  (sSeq (sSet 5 (f1 g_Litems (aCons (fVar 2) aNil)))
  (sSeq (sSet 6 (f1 g_Lpick (aCons (f2 addD (fSl (fVar 5) (oSome (fC (.int 1))) oNone) (fSl (fVar 5) oNone (oSome (fC (.int 1))))) (aCons (f1 g_Lmix (aCons (fVar 0) (aCons (f2 addD (fVar 1) (fC (.int 1))) aNil))) aNil))))
  (sSeq (sSet 7 (f1 g_Lpick (aCons (f2 addD (fVar 5) (fC (.lst [.non, .non]))) (aCons (f1 g_Lmix (aCons (fVar 0) (aCons (f2 addD (fVar 1) (fC (.int 2))) aNil))) aNil))))
  (sSeq (sIf (fT (fIsi "str" (fVar 7))) (sSet 7 (fC .non)) sNil)
  (sSeq (sSet 8 (fC (.lst [(.str "put"), (.str "put"), (.str "put"), (.str "move"), (.str "move"), (.str "write"), (.str "write"), (.str "cut"), (.str "set"), (.str "undo"), (.str "redo"), (.str "drop")])))
  (sSeq (sSet 9 (f2 ixD (fVar 8) (f2 modD (fVar 4) (fC (.int 12)))))
  (sSeq (sIf (fT (f2 eqD' (fVar 9) (fC (.str "put")))) (sRet (fTup (aCons (fVar 9) (aCons (f1 g_Lpick (aCons (fVar 5) (aCons (f1 g_Lmix (aCons (fVar 0) (aCons (f2 addD (fVar 1) (fC (.int 1))) aNil))) aNil))) (aCons (fVar 7) aNil))))) sNil)
  (sSeq (sIf (fT (f2 eqD' (fVar 9) (fC (.str "move")))) (sRet (fTup (aCons (fVar 9) (aCons (fVar 6) (aCons (f1 g_Lpick (aCons (fVar 5) (aCons (f1 g_Lmix (aCons (fVar 0) (aCons (f2 addD (fVar 1) (fC (.int 3))) aNil))) aNil))) (aCons (fVar 7) aNil)))))) sNil)
  (sSeq (sIf (fT (f2 eqD' (fVar 9) (fC (.str "drop")))) (sRet (fTup (aCons (fVar 9) (aCons (fVar 6) aNil)))) sNil)
  (sSeq (sSet 10 (f1 g_Lpick (aCons (f1 g_Lsigns (aCons (fVar 2) aNil)) (aCons (f1 g_Lmix (aCons (fVar 0) (aCons (f2 addD (fVar 1) (fC (.int 4))) aNil))) aNil))))
  (sSeq (sIf (fT (f2 eqD' (fVar 9) (fC (.str "write")))) (sRet (fTup (aCons (fVar 9) (aCons (fVar 6) (aCons (fVar 10) (aCons (f1 g_Ltext (aCons (f1 g_Lmix (aCons (fVar 0) (aCons (f2 addD (fVar 1) (fC (.int 5))) aNil))) (aCons (fVar 3) aNil))) aNil)))))) sNil)
  (sSeq (sIf (fAnd (fT (f2 eqD' (fVar 9) (fC (.str "cut")))) (fT (f2 notNonD (fVar 10) (fC .non)))) (sRet (fTup (aCons (fVar 9) (aCons (fVar 6) (aCons (fVar 10) (aCons (f2 addD (fC (.int 1)) (f2 modD (f2 fdivD (fVar 4) (fC (.int 12))) (f2 subD (fC (.int 16)) (f2 ixD (fVar 10) (fC (.int 2)))))) aNil)))))) sNil)
  (sSeq (sIf (fT (f2 (inFD false) (fVar 9) (fC (.tup [(.str "cut"), (.str "set")])))) (sRet (fTup (aCons (fC (.str "set")) (aCons (fVar 6) (aCons (f2 modD (f2 fdivD (fVar 4) (fC (.int 12))) (fC (.int 4))) (aCons (f2 subD (f2 modD (f2 fdivD (fVar 4) (fC (.int 48))) (fC (.int 2000))) (fC (.int 1000))) aNil)))))) sNil)
  (sSeq (sSet 11 (f2 addD (fComp 1 [] (iLst (fVar 2)) (bName 0) (fun _ => some true) (fTup (aCons (f2 ixD (fVar 0) (fC (.int 0))) (aCons (f2 ixD (fVar 0) (fC (.int 1))) aNil)))) (fLst (aCons (fTup (aCons (fC (.int 0)) (aCons (f2 addD (fC (.int 1)) (f2 modD (fVar 4) (fC (.int 5)))) aNil))) aNil))))
  (sRet (fTup (aCons (fVar 9) (aCons (f1 g_Lpick (aCons (fVar 11) (aCons (f1 g_Lmix (aCons (fVar 0) (aCons (f2 addD (fVar 1) (fC (.int 1))) aNil))) aNil))) aNil)))))))))))))))))))
def g_Ldeed : List D → Option D := runQ ["_law_script", "_law_base", "_law_ops", "_law_most", "_law_number_here", "_law_items_here", "_law_item", "_law_other", "_law_kinds", "_law_kind", "_law_sign", "_law_names"] 4 (q_Ldeed)
def q_Lworld : DEnv → Option Fl :=
  (sSeq (sNew 3 aNil)
  (sSeq (sNew 4 (aCons (fC (.int 0)) (aCons (fC (.int 0)) (aCons (fC (.int 0)) aNil))))
  (sSeq (sNew 5 (aCons (fC (.int 0)) (aCons (fC (.int 0)) (aCons (fC (.int 0)) aNil))))
  (sSeq (sFor (iRng (fVar 2)) (bSet 6) (sSeq (sSet 7 (f1 g_Lmix (aCons (fVar 0) (aCons (f2 addD (fVar 1) (f2 mulD (fC (.int 7)) (fVar 6))) aNil))))
  (sSeq (sSet 8 (f2 modD (fVar 7) (fC (.int 3))))
  (sSeq (sPut 4 (fVar 8) (f2 addD (fIxO 4 (fVar 8)) (fC (.int 1))))
  (sSeq (sPut 5 (fVar 8) (f2 addD (f2 addD (fIxO 5 (fVar 8)) (fC (.int 1))) (f2 modD (f2 fdivD (fVar 7) (fC (.int 3))) (fC (.int 3)))))
  (sSeq (sSet 9 (fFull (f1 g_Ldeed (aCons (fVar 0) (aCons (f2 addD (f2 addD (fVar 1) (f2 mulD (fC (.int 7)) (fVar 6))) (fC (.int 1))) (aCons (fVar 3) (aCons (fC (.int 5)) aNil)))))))
  (sApp 3 (fTup (aCons (f2 ixD (fC (.lst [(.int 0), (.int 5), (.int 15)])) (fVar 8)) (aCons (fIxO 4 (fVar 8)) (aCons (fIxO 5 (fVar 8)) (aCons (fVar 9) aNil))))))))))))
  (sRet (fVar 3))))))
def g_Lworld : List D → Option D := runQ ["_law_script", "_law_base", "_law_many", "_law_ops", "_law_counts", "_law_times", "_law_k", "_law_number_here", "_law_at", "_law_deed_here"] 3 (q_Lworld)
def q_Lword : DEnv → Option Fl :=
  (sSeq (sIf (fT (f2 isNonD (fVar 0) (fC .non))) (sRet (fC (.str "-"))) sNil)
  (sSeq (sIf (fT (fIsi "tuple" (fVar 0))) (sRet (fJoin (fC (.str ".")) (fComp 1 [] (iTup (fVar 0)) (bName 0) (fun _ => some true) (f1 strD (aCons (fVar 0) aNil))))) sNil)
  (sRet (f1 strD (aCons (fVar 0) aNil)))))
def g_Lword : List D → Option D := runQ ["_law_part"] 1 (q_Lword)
def q_Ltuples : DEnv → Option Fl :=
  (sRet (f1 allD (aCons (fComp 1 [] (iTup (fVar 0)) (bName 0) (fun _ => some true) (fOrV (fIsiT ["int", "str", "tuple"] (fVar 0)) (f2 isNonD (fVar 0) (fC .non)))) aNil)))
def g_Ltuples : List D → Option D := runQ ["_law_thing"] 1 (q_Ltuples)
def q_law (t : Adr) : DEnv → Option Fl :=
  (sSeq (sSet 1 (f1 g_Lworld (aCons (fVar 0) (aCons (fC (.int 0)) (aCons (fC (.int 4)) aNil)))))
  (sSeq (sSet 2 (f1 g_Ldeed (aCons (fVar 0) (aCons (fC (.int 30)) (aCons (fVar 1) (aCons (fC (.int 16)) aNil))))))
  (sSeq (sSet 3 (f2 modD (f1 g_Lcell (aCons (fVar 0) (aCons (fC (.int 50)) aNil))) (f2 powD (fC (.int 10)) (fC (.int 60)))))
  (sSeq (sIf (fAnd (fT (f2 eqD' (f2 ixD (fVar 2) (fC (.int 0))) (fC (.str "set")))) (fT (f2 eqD' (f2 modD (f1 g_Lmix (aCons (fVar 0) (aCons (fC (.int 51)) aNil))) (fC (.int 2))) (fC (.int 0))))) (sSet 2 (f2 addD (fSl (fVar 2) oNone (oSome (fC (.int 3)))) (fTup (aCons (f2 ixD (fLst (aCons (fVar 3) (aCons (fNeg (fVar 3)) aNil))) (f2 modD (f1 g_Lmix (aCons (fVar 0) (aCons (fC (.int 52)) aNil))) (fC (.int 2)))) aNil)))) sNil)
  (sSeq (sSet 4 (f2 addD (fC (.int 1)) (f2 modD (f2 ixD (fLst (aCons (fVar 3) (aCons (fC (.int 7)) aNil))) (f2 modD (f1 g_Lmix (aCons (fVar 0) (aCons (fC (.int 55)) aNil))) (fC (.int 2)))) (f2 subD (f2 powD (fC (.int 10)) (fC (.int 60))) (fC (.int 1))))))
  (sSeq (sSet 5 (fTup (aCons (f2 modD (f1 g_Lmix (aCons (fVar 0) (aCons (fC (.int 53)) aNil))) (fC (.int 16))) (aCons (f2 addD (fC (.int 1)) (f2 modD (f1 g_Lmix (aCons (fVar 0) (aCons (fC (.int 54)) aNil))) (fC (.int 99)))) (aCons (fVar 4) (aCons (fVar 2) aNil))))))
  (sSeq (sSet 6 (fJoin (fC (.str " ")) (f2 addD (fComp 1 [] (iTup (fSl (fVar 5) oNone (oSome (fC (.int 3))))) (bName 0) (fun _ => some true) (f1 strD (aCons (fVar 0) aNil))) (fComp 1 [] (iTup (fVar 2)) (bName 0) (fun _ => some true) (f1 g_Lword (aCons (fVar 0) aNil))))))
  (sSeq (sSet 7 (f1 g_shown (aCons (fVar 5) aNil)))
  (sSeq (sIf (fOr (fNot (fT (fIsi "str" (fVar 7)))) (fT (f2 neD (fVar 7) (fVar 6)))) (sRet (fC (.bl false))) sNil)
  (sSeq (sSet 8 (f1 (g_read t) (aCons (fVar 7) aNil)))
  (sRet (fAndV (fIsi "tuple" (fVar 8)) (fAndV (fIsi "tuple" (f2 ixD (fVar 8) (fC (.int 3)))) (fAndV (f2 eqD' (fVar 8) (fVar 5)) (f1 g_Ltuples (aCons (f2 ixD (fVar 8) (fC (.int 3))) aNil))))))))))))))))
def g_law (t : Adr) : List D → Option D := runQ ["_law_script", "_law_ops", "_law_deed_here", "_law_long", "_law_time", "_law_one", "_law_due", "_law_found", "_law_back"] 1 (q_law t)
structure Txt (P : Program) (w : World) (K : PySem.W.Frag) (mg : Str → Option Value) (t : Adr) : Prop where
  d_is_whole : Def K mg "is_whole" st_is_whole ["thing"]
  d_is_below : Def K mg "is_below" st_is_below ["thing", "limit"]
  d_is_from_one : Def K mg "is_from_one" st_is_from_one ["thing"]
  d_is_name : Def K mg "is_name" st_is_name ["thing"]
  d_is_sign_name : Def K mg "is_sign_name" st_is_sign_name ["thing"]
  d_is_item : Def K mg "is_item" st_is_item ["thing"]
  d_is_sibling : Def K mg "is_sibling" st_is_sibling ["thing"]
  d_is_behind : Def K mg "is_behind" st_is_behind ["thing"]
  d_is_sign : Def K mg "is_sign" st_is_sign ["sign"]
  d_is_text : Def K mg "is_text" st_is_text ["thing"]
  d_is_place : Def K mg "is_place" st_is_place ["thing"]
  d_are_parts : Def K mg "are_parts" st_are_parts ["parts", "checks"]
  d_is_deed : Def K mg "is_deed" st_is_deed ["thing"]
  d_is_operation : Def K mg "is_operation" st_is_operation ["thing"]
  d_word_of : Def K mg "word_of" st_word_of ["part"]
  d_shown : Def K mg "shown" st_shown ["operation"]
  d_number_of : Def K mg "number_of" st_number_of ["word"]
  d_part_of : Def K mg "part_of" st_part_of ["word"]
  d_deed_of : Def K mg "deed_of" st_deed_of ["words"]
  d_read : Def K mg "read" st_read ["line"]
  d_Lcell : Def K mg "_law_cell" st_Lcell ["_law_script", "_law_k"]
  d_Lmix : Def K mg "_law_mix" st_Lmix ["_law_script", "_law_k"]
  d_Litems : Def K mg "_law_items" st_Litems ["_law_ops"]
  d_Lsigns : Def K mg "_law_signs" st_Lsigns ["_law_ops"]
  d_Ltext : Def K mg "_law_text" st_Ltext ["_law_number_here", "_law_most"]
  d_Lpick : Def K mg "_law_pick" st_Lpick ["_law_rows", "_law_number_here"]
  d_Ldeed : Def K mg "_law_deed" st_Ldeed ["_law_script", "_law_base", "_law_ops", "_law_most"]
  d_Lworld : Def K mg "_law_world" st_Lworld ["_law_script", "_law_base", "_law_many"]
  d_Lword : Def K mg "_law_word" st_Lword ["_law_part"]
  d_Ltuples : Def K mg "_law_tuples" st_Ltuples ["_law_thing"]
  d_law : Def K mg "law" st_law ["_law_script"]
  b_abs : mg "abs" = none
  b_all : mg "all" = none
  b_bool : mg "bool" = none
  b_int : mg "int" = none
  b_isinstance : mg "isinstance" = none
  b_len : mg "len" = none
  b_ord : mg "ord" = none
  b_range : mg "range" = none
  b_str : mg "str" = none
  b_tuple : mg "tuple" = none
  b_zip : mg "zip" = none
  c_HANDS : ∃ tk, mg "HANDS" = some (.int 16 tk)
  c_SIGNS : ∃ tk, mg "SIGNS" = some (.int 16 tk)
  c_PLACES : ∃ tk, mg "PLACES" = some (.int 4 tk)
  c_LEFT_OUT : ∃ tk, mg "LEFT_OUT" = some (.int 37 tk)
  a_is_item : mg "is_item" = some (.ref t.is_item)
  a_is_sibling : mg "is_sibling" = some (.ref t.is_sibling)
  a_is_behind : mg "is_behind" = some (.ref t.is_behind)
  a_is_text : mg "is_text" = some (.ref t.is_text)
  a_is_sign_name : mg "is_sign_name" = some (.ref t.is_sign_name)
  a_is_from_one : mg "is_from_one" = some (.ref t.is_from_one)
  a_is_place : mg "is_place" = some (.ref t.is_place)
  a_is_whole : mg "is_whole" = some (.ref t.is_whole)
  a_is_name : mg "is_name" = some (.ref t.is_name)
  g_PARTS : ∀ X : Cx, X.prog = P → X.w = w → X.K = K → X.mg = mg → GDict X "PARTS" (tab_PARTS t)
end K02
set_option maxRecDepth 100000
set_option maxHeartbeats 4000000
namespace K02
open PySem L2 DL
section
variable {P : Program} {w : World} {K : PySem.W.Frag} {mg : Str → Option Value} {base : Heap} {t : Adr}
theorem ok_is_whole (T : Txt P w K mg t) : Ok P w K mg base 1 "is_whole" ["thing"] (g_is_whole) :=
  ok_of (own' := []) (k := 0) T.d_is_whole sc_is_whole (fun fad cdv A outer s H E hr => (dss_one (ds_ret (de_and (de_isi isi_int rfl T.b_isinstance rfl T.b_int bo_isinstance bo_int (de_var 0)) (de_and (de_not (de_isi isi_bool rfl T.b_isinstance rfl T.b_bool bo_isinstance bo_bool (de_var 0))) (de_one (de_cmp op_lt om_lt (de_callB call_abs cd_abs rfl T.b_abs bo_abs (da_cons (de_var 0) da_nil)) (de_op op_pow om_pow de_int de_int) (nomark _))))))))
end
end K02
set_option maxRecDepth 100000
set_option maxHeartbeats 4000000
namespace K02
open PySem L2 DL
section
variable {P : Program} {w : World} {K : PySem.W.Frag} {mg : Str → Option Value} {base : Heap} {t : Adr}
theorem ok_is_below (T : Txt P w K mg t) : Ok P w K mg base 2 "is_below" ["thing", "limit"] (g_is_below) :=
  ok_of (own' := []) (k := 1) T.d_is_below sc_is_below (fun fad cdv A outer s H E hr => (dss_one (ds_ret (de_and (de_callO (ok_is_whole T) (hr.mono (by decide)) rfl (da_cons (de_var 0) da_nil) (len_cons (fun _ _ h => len_nil h))) (de_one (de_chain op_leB om_leB op_lt om_lt de_int (de_var 0) (de_var 1)))))))
end
end K02
set_option maxRecDepth 100000
set_option maxHeartbeats 4000000
namespace K02
open PySem L2 DL
section
variable {P : Program} {w : World} {K : PySem.W.Frag} {mg : Str → Option Value} {base : Heap} {t : Adr}
theorem ok_is_from_one (T : Txt P w K mg t) : Ok P w K mg base 2 "is_from_one" ["thing"] (g_is_from_one) :=
  ok_of (own' := []) (k := 1) T.d_is_from_one sc_is_from_one (fun fad cdv A outer s H E hr => (dss_one (ds_ret (de_and (de_callO (ok_is_whole T) (hr.mono (by decide)) rfl (da_cons (de_var 0) da_nil) (len_cons (fun _ _ h => len_nil h))) (de_one (de_cmp op_ge om_ge (de_var 0) de_int (nomark _)))))))
end
end K02
set_option maxRecDepth 100000
set_option maxHeartbeats 4000000
namespace K02
open PySem L2 DL
section
variable {P : Program} {w : World} {K : PySem.W.Frag} {mg : Str → Option Value} {base : Heap} {t : Adr}
theorem ok_is_name (T : Txt P w K mg t) : Ok P w K mg base 3 "is_name" ["thing"] (g_is_name) :=
  ok_of (own' := []) (k := 2) T.d_is_name sc_is_name (fun fad cdv A outer s H E hr => (dss_cons (ds_if (dt_w (dw_or (dt_not (dt_val (de_isi isi_tuple rfl T.b_isinstance rfl T.b_tuple bo_isinstance bo_tuple (de_var 0)))) (dw_or1 (dt_cmp op_ne om_ne (de_callB call_len cd_len rfl T.b_len bo_len (da_cons (de_var 0) da_nil)) de_int (nomark _))))) (dss_one (ds_ret de_bl)) dss_nil)
      (dss_one (ds_ret (de_and (de_callO (ok_is_below T) (hr.mono (by decide)) rfl (da_cons (de_ix ix_seq od_ix (de_var 0) de_int (fun _ _ => rfl)) (da_cons (de_gintE T.c_HANDS rfl) da_nil)) (len_cons (len_cons (fun _ _ h => len_nil h)))) (de_one (de_callO (ok_is_from_one T) (hr.mono (by decide)) rfl (da_cons (de_ix ix_seq od_ix (de_var 0) de_int (fun _ _ => rfl)) da_nil) (len_cons (fun _ _ h => len_nil h)))))))))
end
end K02
set_option maxRecDepth 100000
set_option maxHeartbeats 4000000
namespace K02
open PySem L2 DL
section
variable {P : Program} {w : World} {K : PySem.W.Frag} {mg : Str → Option Value} {base : Heap} {t : Adr}
theorem ok_is_sign_name (T : Txt P w K mg t) : Ok P w K mg base 4 "is_sign_name" ["thing"] (g_is_sign_name) :=
  ok_of (own' := []) (k := 3) T.d_is_sign_name sc_is_sign_name (fun fad cdv A outer s H E hr => (dss_cons (ds_if (dt_w (dw_or (dt_not (dt_val (de_isi isi_tuple rfl T.b_isinstance rfl T.b_tuple bo_isinstance bo_tuple (de_var 0)))) (dw_or1 (dt_cmp op_ne om_ne (de_callB call_len cd_len rfl T.b_len bo_len (da_cons (de_var 0) da_nil)) de_int (nomark _))))) (dss_one (ds_ret de_bl)) dss_nil)
      (dss_one (ds_ret (de_and (de_callO (ok_is_name T) (hr.mono (by decide)) rfl (da_cons (de_slice (de_var 0) do_none (do_some de_int)) da_nil) (len_cons (fun _ _ h => len_nil h))) (de_one (de_callO (ok_is_below T) (hr.mono (by decide)) rfl (da_cons (de_ix ix_seq od_ix (de_var 0) de_int (fun _ _ => rfl)) (da_cons (de_gintE T.c_SIGNS rfl) da_nil)) (len_cons (len_cons (fun _ _ h => len_nil h))))))))))
end
end K02
set_option maxRecDepth 100000
set_option maxHeartbeats 4000000
namespace K02
open PySem L2 DL
section
variable {P : Program} {w : World} {K : PySem.W.Frag} {mg : Str → Option Value} {base : Heap} {t : Adr}
theorem ok_is_item (T : Txt P w K mg t) : Ok P w K mg base 4 "is_item" ["thing"] (g_is_item) :=
  ok_of (own' := []) (k := 3) T.d_is_item sc_is_item (fun fad cdv A outer s H E hr => (dss_one (ds_ret (de_or (de_callO (ok_is_name T) (hr.mono (by decide)) rfl (da_cons (de_var 0) da_nil) (len_cons (fun _ _ h => len_nil h))) (de_or (de_cmp (op_eqD (Room.units hr)) od_eqD (de_var 0) de_str (nomark _)) (de_one (de_cmp (op_eqD (Room.units hr)) od_eqD (de_var 0) de_str (nomark _))))))))
end
end K02
set_option maxRecDepth 100000
set_option maxHeartbeats 4000000
namespace K02
open PySem L2 DL
section
variable {P : Program} {w : World} {K : PySem.W.Frag} {mg : Str → Option Value} {base : Heap} {t : Adr}
theorem ok_is_sibling (T : Txt P w K mg t) : Ok P w K mg base 4 "is_sibling" ["thing"] (g_is_sibling) :=
  ok_of (own' := []) (k := 3) T.d_is_sibling sc_is_sibling (fun fad cdv A outer s H E hr => (dss_one (ds_ret (de_or (de_cmp op_isN od_isN (de_var 0) de_non (nomark _)) (de_one (de_callO (ok_is_name T) (hr.mono (by decide)) rfl (da_cons (de_var 0) da_nil) (len_cons (fun _ _ h => len_nil h))))))))
end
end K02
set_option maxRecDepth 100000
set_option maxHeartbeats 4000000
namespace K02
open PySem L2 DL
section
variable {P : Program} {w : World} {K : PySem.W.Frag} {mg : Str → Option Value} {base : Heap} {t : Adr}
theorem ok_is_behind (T : Txt P w K mg t) : Ok P w K mg base 5 "is_behind" ["thing"] (g_is_behind) :=
  ok_of (own' := []) (k := 4) T.d_is_behind sc_is_behind (fun fad cdv A outer s H E hr => (dss_one (ds_ret (de_or (de_cmp op_isN od_isN (de_var 0) de_non (nomark _)) (de_one (de_callO (ok_is_sign_name T) (hr.mono (by decide)) rfl (da_cons (de_var 0) da_nil) (len_cons (fun _ _ h => len_nil h))))))))
end
end K02
set_option maxRecDepth 100000
set_option maxHeartbeats 4000000
namespace K02
open PySem L2 DL
section
variable {P : Program} {w : World} {K : PySem.W.Frag} {mg : Str → Option Value} {base : Heap} {t : Adr}
theorem ok_is_sign (T : Txt P w K mg t) : Ok P w K mg base 1 "is_sign" ["sign"] (g_is_sign) :=
  ok_of (own' := []) (k := 0) T.d_is_sign sc_is_sign (fun fad cdv A outer s H E hr => (dss_one (ds_ret (de_and (de_chain op_leB om_leB op_leB om_leB de_str (de_var 0) de_str) (de_one (de_cmp op_ne om_ne (de_callB call_ord cd_ord rfl T.b_ord bo_ord (da_cons (de_var 0) da_nil)) (de_gintE T.c_LEFT_OUT rfl) (nomark _)))))))
end
end K02
set_option maxRecDepth 100000
set_option maxHeartbeats 4000000
namespace K02
open PySem L2 DL
section
variable {P : Program} {w : World} {K : PySem.W.Frag} {mg : Str → Option Value} {base : Heap} {t : Adr}
theorem ok_is_text (T : Txt P w K mg t) : Ok P w K mg base 2 "is_text" ["thing"] (g_is_text) :=
  ok_of (own' := []) (k := 1) T.d_is_text sc_is_text (fun fad cdv A outer s H E hr => (dss_cons (ds_if (dt_w (dw_or (dt_not (dt_val (de_isi isi_str rfl T.b_isinstance rfl T.b_str bo_isinstance bo_str (de_var 0)))) (dw_or1 (dt_not (dt_chain op_leB om_leB op_leB om_leB de_int (de_callB call_len cd_len rfl T.b_len bo_len (da_cons (de_var 0) da_nil)) (de_gintE T.c_SIGNS rfl)))))) (dss_one (ds_ret de_bl)) dss_nil)
      (dss_one (ds_ret (de_callB (call_all rfl) cd_all rfl T.b_all bo_all (da_cons (de_comp (NL := ["sign"]) (NF := []) (ix := []) rfl (by decide) (by decide +kernel) (comp_free (sc := defScope st_is_text) rfl (by decide +kernel)) CapN.nil (by decide) rfl (di_str (de_var 0)) (fun _ _ _ _ _ => pg_name (i := 0) (show (["sign"] : List Str).Nodup by decide +kernel) rfl (Or.inl rfl)) (gd_name 0) (fun _ _ _ _ _ => pifs0) (fun _ _ _ _ _ => (de_callO (ok_is_sign T) (hr.mono (by decide)) rfl (da_cons (de_var 0) da_nil) (len_cons (fun _ _ h => len_nil h))))) da_nil))))))
end
end K02
set_option maxRecDepth 100000
set_option maxHeartbeats 4000000
namespace K02
open PySem L2 DL
section
variable {P : Program} {w : World} {K : PySem.W.Frag} {mg : Str → Option Value} {base : Heap} {t : Adr}
theorem ok_is_place (T : Txt P w K mg t) : Ok P w K mg base 3 "is_place" ["thing"] (g_is_place) :=
  ok_of (own' := []) (k := 2) T.d_is_place sc_is_place (fun fad cdv A outer s H E hr => (dss_one (ds_ret (de_callO (ok_is_below T) (hr.mono (by decide)) rfl (da_cons (de_var 0) (da_cons (de_gintE T.c_PLACES rfl) da_nil)) (len_cons (len_cons (fun _ _ h => len_nil h)))))))
end
end K02
set_option maxRecDepth 100000
set_option maxHeartbeats 4000000
namespace K02
open PySem L2 DL
section
variable {P : Program} {w : World} {K : PySem.W.Frag} {mg : Str → Option Value} {base : Heap} {t : Adr}
theorem tab_one {x : Str} {fad : Addr} {g : List D → Option D} {ps : List Str} {k : Nat} (h : Ok P w K mg base k x ps g) (hm : mg x = some (.ref fad)) (hp : ps.length = 1) (hk : k ≤ 5) : ∃ fd ps, ps.length = 1 ∧ FnOk P w K mg base CX0 5 fad fd ps (spF K ps.length g) ∧ Binds K fd ps [] ∧ PySem.W.keepIn K (.ref fad) = true := by
  obtain ⟨f', fd, h1, h2, h3, h4⟩ := h
  rw [hm] at h3
  cases h3
  exact ⟨fd, ps, hp, h1.mono hk, h2, h4⟩
end
end K02
set_option maxRecDepth 100000
set_option maxHeartbeats 4000000
namespace K02
open PySem L2 DL
section
variable {P : Program} {w : World} {K : PySem.W.Frag} {mg : Str → Option Value} {base : Heap} {t : Adr}
theorem ftab_ok (T : Txt P w K mg t) : FnTab P w K mg base 5 1 (ftab t) := by
  intro fad g e
  unfold ftab at e
  split at e
  · rename_i h; cases e; subst h; exact tab_one (ok_is_item T) T.a_is_item rfl (by decide)
  split at e
  · rename_i h; cases e; subst h; exact tab_one (ok_is_sibling T) T.a_is_sibling rfl (by decide)
  split at e
  · rename_i h; cases e; subst h; exact tab_one (ok_is_behind T) T.a_is_behind rfl (by decide)
  split at e
  · rename_i h; cases e; subst h; exact tab_one (ok_is_text T) T.a_is_text rfl (by decide)
  split at e
  · rename_i h; cases e; subst h; exact tab_one (ok_is_sign_name T) T.a_is_sign_name rfl (by decide)
  split at e
  · rename_i h; cases e; subst h; exact tab_one (ok_is_from_one T) T.a_is_from_one rfl (by decide)
  split at e
  · rename_i h; cases e; subst h; exact tab_one (ok_is_place T) T.a_is_place rfl (by decide)
  split at e
  · rename_i h; cases e; subst h; exact tab_one (ok_is_whole T) T.a_is_whole rfl (by decide)
  split at e
  · rename_i h; cases e; subst h; exact tab_one (ok_is_name T) T.a_is_name rfl (by decide)
  cases e
end
end K02
set_option maxRecDepth 100000
set_option maxHeartbeats 4000000
namespace K02
open PySem L2 DL
section
variable {P : Program} {w : World} {K : PySem.W.Frag} {mg : Str → Option Value} {base : Heap} {t : Adr}
theorem ok_are_parts (T : Txt P w K mg t) : Ok P w K mg base 6 "are_parts" ["parts", "checks"] (g_are_parts t) :=
  ok_of (own' := []) (k := 5) T.d_are_parts sc_are_parts (fun fad cdv A outer s H E hr => (dss_cons (ds_if (dt_cmp op_ne om_ne (de_callB call_len cd_len rfl T.b_len bo_len (da_cons (de_var 0) da_nil)) (de_callB call_len cd_len rfl T.b_len bo_len (da_cons (de_var 1) da_nil)) (nomark _)) (dss_one (ds_ret de_bl)) dss_nil)
      (dss_one (ds_ret (de_callB (call_all rfl) cd_all rfl T.b_all bo_all (da_cons (de_comp (NL := ["check", "part"]) (NF := []) (ix := []) rfl (by decide) (by decide +kernel) (comp_free (sc := defScope st_are_parts) rfl (by decide +kernel)) CapN.nil (by decide) rfl (di_zip rfl T.b_zip bo_zip (de_var 1) (de_var 0)) (fun _ _ _ _ _ => pg_tup rfl (pgs_cons (pg_name (i := 0) (show (["check", "part"] : List Str).Nodup by decide +kernel) rfl (Or.inl rfl)) (pgs_cons (pg_name (i := 1) (show (["check", "part"] : List Str).Nodup by decide +kernel) rfl (Or.inl rfl)) pgs_nil))) (gd_pair 0 1) (fun _ _ _ _ _ => pifs0) (fun _ _ _ _ _ => (de_callV (j := 0) (n := 1) (ftab_ok T) (hr.mono (by decide)) (da_cons (de_var 1) da_nil) (len_cons (fun _ _ h => len_nil h))))) da_nil))))))
end
end K02
set_option maxRecDepth 100000
set_option maxHeartbeats 4000000
namespace K02
open PySem L2 DL
section
variable {P : Program} {w : World} {K : PySem.W.Frag} {mg : Str → Option Value} {base : Heap} {t : Adr}
theorem ok_is_deed (T : Txt P w K mg t) : Ok P w K mg base 7 "is_deed" ["thing"] (g_is_deed t) :=
  ok_of (own' := []) (k := 6) T.d_is_deed sc_is_deed (fun fad cdv A outer s H E hr => (dss_cons (ds_if (dt_w (dw_or (dt_not (dt_val (de_isi isi_tuple rfl T.b_isinstance rfl T.b_tuple bo_isinstance bo_tuple (de_var 0)))) (dw_or1 (dt_cmp (op_eqD (Room.units hr)) od_eqD (de_callB call_len cd_len rfl T.b_len bo_len (da_cons (de_var 0) da_nil)) de_int (nomark _))))) (dss_one (ds_ret de_bl)) dss_nil)
      (dss_cons (ds_if (dt_w (dw_or (dt_not (dt_val (de_isi isi_str rfl T.b_isinstance rfl T.b_str bo_isinstance bo_str (de_ix ix_seq od_ix (de_var 0) de_int (fun _ _ => rfl))))) (dw_or1 (dt_gnotin (T.g_PARTS _ rfl rfl rfl rfl) rfl (de_ix ix_seq od_ix (de_var 0) de_int (fun _ _ => rfl)))))) (dss_one (ds_ret de_bl)) dss_nil)
      (dss_cons (ds_if (dt_not (dt_val (de_callO (ok_are_parts T) (hr.mono (by decide)) rfl (da_cons (de_slice (de_var 0) (do_some de_int) do_none) (da_cons (de_gget (T.g_PARTS _ rfl rfl rfl rfl) rfl (de_ix ix_seq od_ix (de_var 0) de_int (fun _ _ => rfl)) (fun _ _ => rfl)) da_nil)) (len_cons (len_cons (fun _ _ h => len_nil h)))))) (dss_one (ds_ret de_bl)) dss_nil)
      (dss_one (ds_ret (de_or (de_cmp op_ne om_ne (de_ix ix_seq od_ix (de_var 0) de_int (fun _ _ => rfl)) de_str (nomark _)) (de_one (de_cmp op_leB om_leB (de_op op_addAll od_add (de_ix ix_seq od_ix (de_ix ix_seq od_ix (de_var 0) de_int (fun _ _ => rfl)) de_int (fun _ _ => rfl)) (de_ix ix_seq od_ix (de_var 0) de_int (fun _ _ => rfl))) (de_gintE T.c_SIGNS rfl) (nomark _))))))))))
end
end K02
set_option maxRecDepth 100000
set_option maxHeartbeats 4000000
namespace K02
open PySem L2 DL
section
variable {P : Program} {w : World} {K : PySem.W.Frag} {mg : Str → Option Value} {base : Heap} {t : Adr}
theorem ok_is_operation (T : Txt P w K mg t) : Ok P w K mg base 8 "is_operation" ["thing"] (g_is_operation t) :=
  ok_of (own' := []) (k := 7) T.d_is_operation sc_is_operation (fun fad cdv A outer s H E hr => (dss_cons (ds_if (dt_w (dw_or (dt_not (dt_val (de_isi isi_tuple rfl T.b_isinstance rfl T.b_tuple bo_isinstance bo_tuple (de_var 0)))) (dw_or1 (dt_cmp op_ne om_ne (de_callB call_len cd_len rfl T.b_len bo_len (da_cons (de_var 0) da_nil)) de_int (nomark _))))) (dss_one (ds_ret de_bl)) dss_nil)
      (dss_one (ds_ret (de_and (de_callO (ok_is_name T) (hr.mono (by decide)) rfl (da_cons (de_slice (de_var 0) do_none (do_some de_int)) da_nil) (len_cons (fun _ _ h => len_nil h))) (de_and (de_callO (ok_is_from_one T) (hr.mono (by decide)) rfl (da_cons (de_ix ix_seq od_ix (de_var 0) de_int (fun _ _ => rfl)) da_nil) (len_cons (fun _ _ h => len_nil h))) (de_one (de_callO (ok_is_deed T) (hr.mono (by decide)) rfl (da_cons (de_ix ix_seq od_ix (de_var 0) de_int (fun _ _ => rfl)) da_nil) (len_cons (fun _ _ h => len_nil h))))))))))
end
end K02
set_option maxRecDepth 100000
set_option maxHeartbeats 4000000
namespace K02
open PySem L2 DL
section
variable {P : Program} {w : World} {K : PySem.W.Frag} {mg : Str → Option Value} {base : Heap} {t : Adr}
theorem ok_word_of (T : Txt P w K mg t) : Ok P w K mg base 1 "word_of" ["part"] (g_word_of) :=
  ok_of (own' := []) (k := 0) T.d_word_of sc_word_of (fun fad cdv A outer s H E hr => (dss_cons (ds_if (dt_cmp op_isN od_isN (de_var 0) de_non (nomark _)) (dss_one (ds_ret de_str)) dss_nil)
      (dss_cons (ds_if (dt_val (de_isi isi_tuple rfl T.b_isinstance rfl T.b_tuple bo_isinstance bo_tuple (de_var 0))) (dss_one (ds_ret (de_join de_str (de_comp (NL := ["number"]) (NF := []) (ix := []) rfl (by decide) (by decide +kernel) (comp_free (sc := defScope st_word_of) rfl (by decide +kernel)) CapN.nil (by decide) rfl (di_tup (de_var 0)) (fun _ _ _ _ _ => pg_name (i := 0) (show (["number"] : List Str).Nodup by decide +kernel) rfl (Or.inl rfl)) (gd_name 0) (fun _ _ _ _ _ => pifs0) (fun _ _ _ _ _ => (de_callTy call_str cd_str rfl T.b_str bo_str (da_cons (de_var 0) da_nil))))))) dss_nil)
      (dss_one (ds_ret (de_callTy call_str cd_str rfl T.b_str bo_str (da_cons (de_var 0) da_nil)))))))
end
end K02
set_option maxRecDepth 100000
set_option maxHeartbeats 4000000
namespace K02
open PySem L2 DL
section
variable {P : Program} {w : World} {K : PySem.W.Frag} {mg : Str → Option Value} {base : Heap} {t : Adr}
theorem ok_shown (T : Txt P w K mg t) : Ok P w K mg base 2 "shown" ["operation"] (g_shown) :=
  ok_of (own' := []) (k := 1) T.d_shown sc_shown (fun fad cdv A outer s H E hr => (dss_one (ds_ret (de_join de_str (de_comp (NL := ["part"]) (NF := []) (ix := []) rfl (by decide) (by decide +kernel) (comp_free (sc := defScope st_shown) rfl (by decide +kernel)) CapN.nil (by decide) rfl (di_tup (de_op op_addAll od_add (de_slice (de_var 0) do_none (do_some de_int)) (de_ix ix_seq od_ix (de_var 0) de_int (fun _ _ => rfl)))) (fun _ _ _ _ _ => pg_name (i := 0) (show (["part"] : List Str).Nodup by decide +kernel) rfl (Or.inl rfl)) (gd_name 0) (fun _ _ _ _ _ => pifs0) (fun _ _ _ _ _ => (de_callO (ok_word_of T) (hr.mono (by decide)) rfl (da_cons (de_var 0) da_nil) (len_cons (fun _ _ h => len_nil h)))))))))
end
end K02
set_option maxRecDepth 100000
set_option maxHeartbeats 4000000
namespace K02
open PySem L2 DL
section
variable {P : Program} {w : World} {K : PySem.W.Frag} {mg : Str → Option Value} {base : Heap} {t : Adr}
theorem ok_number_of (T : Txt P w K mg t) : Ok P w K mg base 1 "number_of" ["word"] (g_number_of) :=
  ok_of (own' := []) (k := 0) T.d_number_of sc_number_of (fun fad cdv A outer s H E hr => (dss_cons (ds_try (dss_one (ds_set (i := 1) sc_number_of.nd rfl (Or.inl rfl) (de_callTy call_intT cd_intT rfl T.b_int bo_int (da_cons (de_var 0) da_nil)))))
      (dss_one (ds_ret (de_var 1)))))
end
end K02
set_option maxRecDepth 100000
set_option maxHeartbeats 4000000
namespace K02
open PySem L2 DL
section
variable {P : Program} {w : World} {K : PySem.W.Frag} {mg : Str → Option Value} {base : Heap} {t : Adr}
theorem ok_part_of (T : Txt P w K mg t) : Ok P w K mg base 2 "part_of" ["word"] (g_part_of) :=
  ok_of (own' := []) (k := 1) T.d_part_of sc_part_of (fun fad cdv A outer s H E hr => (dss_cons (ds_if (dt_cmp (op_eqD (Room.units hr)) od_eqD (de_var 0) de_str (nomark _)) (dss_one (ds_ret de_non)) dss_nil)
      (dss_cons (ds_if (dt_w (dw_or (dt_cmp (op_eqD (Room.units hr)) od_eqD (de_var 0) de_str (nomark _)) (dw_or1 (dt_cmp (op_eqD (Room.units hr)) od_eqD (de_var 0) de_str (nomark _))))) (dss_one (ds_ret (de_var 0))) dss_nil)
      (dss_cons (ds_if (dt_cmp op_inB om_inB de_str (de_var 0) rfl) (dss_one (ds_ret (de_callTy call_tuple_of cd_tuple rfl T.b_tuple bo_tuple (da_cons (de_comp (NL := ["figures"]) (NF := []) (ix := []) rfl (by decide) (by decide +kernel) (comp_free (sc := defScope st_part_of) rfl (by decide +kernel)) CapN.nil (by decide) rfl (di_list (de_split1 (de_var 0) de_str)) (fun _ _ _ _ _ => pg_name (i := 0) (show (["figures"] : List Str).Nodup by decide +kernel) rfl (Or.inl rfl)) (gd_name 0) (fun _ _ _ _ _ => pifs0) (fun _ _ _ _ _ => (de_callO (ok_number_of T) (hr.mono (by decide)) rfl (da_cons (de_var 0) da_nil) (len_cons (fun _ _ h => len_nil h))))) da_nil)))) dss_nil)
      (dss_one (ds_ret (de_callO (ok_number_of T) (hr.mono (by decide)) rfl (da_cons (de_var 0) da_nil) (len_cons (fun _ _ h => len_nil h)))))))))
end
end K02
set_option maxRecDepth 100000
set_option maxHeartbeats 4000000
namespace K02
open PySem L2 DL
section
variable {P : Program} {w : World} {K : PySem.W.Frag} {mg : Str → Option Value} {base : Heap} {t : Adr}
theorem ok_deed_of (T : Txt P w K mg t) : Ok P w K mg base 3 "deed_of" ["words"] (g_deed_of) :=
  ok_of (own' := []) (k := 2) T.d_deed_of sc_deed_of (fun fad cdv A outer s H E hr => (dss_cons (ds_set (i := 1) sc_deed_of.nd rfl (Or.inl rfl) (de_if (dt_cmp (op_eqD (Room.units hr)) od_eqD (de_slice (de_var 0) do_none (do_some de_int)) (de_lit (n := 8) rfl) (nomark _)) de_int (de_callB call_len cd_len rfl T.b_len bo_len (da_cons (de_var 0) da_nil))))
      (dss_one (ds_ret (de_callTy call_tuple_of cd_tuple rfl T.b_tuple bo_tuple (da_cons (de_op op_addAll od_add (de_op op_addAll od_add (de_slice (de_var 0) do_none (do_some de_int)) (de_comp (NL := ["word"]) (NF := []) (ix := []) rfl (by decide) (by decide +kernel) (comp_free (sc := defScope st_deed_of) rfl (by decide +kernel)) CapN.nil (by decide) rfl (di_list (de_slice (de_var 0) (do_some de_int) (do_some (de_var 1)))) (fun _ _ _ _ _ => pg_name (i := 0) (show (["word"] : List Str).Nodup by decide +kernel) rfl (Or.inl rfl)) (gd_name 0) (fun _ _ _ _ _ => pifs0) (fun _ _ _ _ _ => (de_callO (ok_part_of T) (hr.mono (by decide)) rfl (da_cons (de_var 0) da_nil) (len_cons (fun _ _ h => len_nil h)))))) (de_slice (de_var 0) (do_some (de_var 1)) do_none)) da_nil))))))
end
end K02
set_option maxRecDepth 100000
set_option maxHeartbeats 4000000
namespace K02
open PySem L2 DL
section
variable {P : Program} {w : World} {K : PySem.W.Frag} {mg : Str → Option Value} {base : Heap} {t : Adr}
theorem ok_read (T : Txt P w K mg t) : Ok P w K mg base 9 "read" ["line"] (g_read t) :=
  ok_of (own' := []) (k := 8) T.d_read sc_read (fun fad cdv A outer s H E hr => (dss_cons (ds_set (i := 1) sc_read.nd rfl (Or.inl rfl) (de_split2 (de_var 0) de_str de_int))
      (dss_cons (ds_set (i := 2) sc_read.nd rfl (Or.inl rfl) (de_callTy call_tuple_of cd_tuple rfl T.b_tuple bo_tuple (da_cons (de_op op_addAll od_add (de_comp (NL := ["word"]) (NF := []) (ix := []) rfl (by decide) (by decide +kernel) (comp_free (sc := defScope st_read) rfl (by decide +kernel)) CapN.nil (by decide) rfl (di_list (de_slice (de_var 1) do_none (do_some de_int))) (fun _ _ _ _ _ => pg_name (i := 0) (show (["word"] : List Str).Nodup by decide +kernel) rfl (Or.inl rfl)) (gd_name 0) (fun _ _ _ _ _ => pifs0) (fun _ _ _ _ _ => (de_callO (ok_number_of T) (hr.mono (by decide)) rfl (da_cons (de_var 0) da_nil) (len_cons (fun _ _ h => len_nil h))))) (de_lst (da_cons (de_callO (ok_deed_of T) (hr.mono (by decide)) rfl (da_cons (de_slice (de_var 1) (do_some de_int) do_none) da_nil) (len_cons (fun _ _ h => len_nil h))) da_nil))) da_nil)))
      (dss_cons (ds_if (dt_w (dw_or (dt_not (dt_val (de_callO (ok_is_operation T) (hr.mono (by decide)) rfl (da_cons (de_var 2) da_nil) (len_cons (fun _ _ h => len_nil h))))) (dw_or1 (dt_cmp op_ne om_ne (de_callO (ok_shown T) (hr.mono (by decide)) rfl (da_cons (de_var 2) da_nil) (len_cons (fun _ _ h => len_nil h))) (de_var 0) (nomark _))))) (dss_one ds_none) dss_nil)
      (dss_one (ds_ret (de_var 2)))))))
end
end K02
set_option maxRecDepth 100000
set_option maxHeartbeats 4000000
namespace K02
open PySem L2 DL
section
variable {P : Program} {w : World} {K : PySem.W.Frag} {mg : Str → Option Value} {base : Heap} {t : Adr}
theorem ok_Lcell (T : Txt P w K mg t) : Ok P w K mg base 1 "_law_cell" ["_law_script", "_law_k"] (g_Lcell) :=
  ok_of (own' := []) (k := 0) T.d_Lcell sc_Lcell (fun fad cdv A outer s H E hr => (dss_cons (ds_if (dt_truth (de_var 0)) (dss_one (ds_ret (de_ix ix_seq od_ix (de_var 0) (de_op op_mod om_mod (de_var 1) (de_callB call_len cd_len rfl T.b_len bo_len (da_cons (de_var 0) da_nil))) (fun _ _ => rfl)))) dss_nil)
      (dss_one (ds_ret de_int))))
end
end K02
set_option maxRecDepth 100000
set_option maxHeartbeats 4000000
namespace K02
open PySem L2 DL
section
variable {P : Program} {w : World} {K : PySem.W.Frag} {mg : Str → Option Value} {base : Heap} {t : Adr}
theorem ok_Lmix (T : Txt P w K mg t) : Ok P w K mg base 2 "_law_mix" ["_law_script", "_law_k"] (g_Lmix) :=
  ok_of (own' := []) (k := 1) T.d_Lmix sc_Lmix (fun fad cdv A outer s H E hr => (dss_cons (ds_set (i := 2) sc_Lmix.nd rfl (Or.inl rfl) (de_op op_mod om_mod (de_op op_addAll od_add (de_callO (ok_Lcell T) (hr.mono (by decide)) rfl (da_cons (de_var 0) (da_cons (de_var 1) da_nil)) (len_cons (len_cons (fun _ _ h => len_nil h)))) (de_op op_mul om_mul de_int (de_op op_addAll od_add (de_var 1) de_int))) de_int))
      (dss_cons (ds_set (i := 2) sc_Lmix.nd rfl (Or.inl rfl) (de_op op_mod om_mod (de_op op_mul om_mul (de_var 2) de_int) de_int))
      (dss_one (ds_ret (de_op op_mod om_mod (de_op op_addAll od_add (de_op op_mul om_mul (de_op op_fdiv om_fdiv (de_var 2) de_int) de_int) (de_var 2)) de_int))))))
end
end K02
set_option maxRecDepth 100000
set_option maxHeartbeats 4000000
namespace K02
open PySem L2 DL
section
variable {P : Program} {w : World} {K : PySem.W.Frag} {mg : Str → Option Value} {base : Heap} {t : Adr}
theorem ok_Litems (T : Txt P w K mg t) : Ok P w K mg base 1 "_law_items" ["_law_ops"] (g_Litems) :=
  ok_of (own' := []) (k := 0) T.d_Litems sc_Litems (fun fad cdv A outer s H E hr => (dss_one (ds_ret (de_op op_addAll od_add (de_op op_addAll od_add (de_lit (n := 8) rfl) (de_comp (NL := ["_law_one"]) (NF := []) (ix := []) rfl (by decide) (by decide +kernel) (comp_free (sc := defScope st_Litems) rfl (by decide +kernel)) CapN.nil (by decide) rfl (di_list (de_var 0)) (fun _ _ _ _ _ => pg_name (i := 0) (show (["_law_one"] : List Str).Nodup by decide +kernel) rfl (Or.inl rfl)) (gd_name 0) (fun _ _ _ _ _ => pifs1 (dt_cmp (op_eqD (Room.units hr)) od_eqD (de_ix ix_seq od_ix (de_ix ix_seq od_ix (de_var 0) de_int (fun _ _ => rfl)) de_int (fun _ _ => rfl)) de_str (nomark _))) (fun _ _ _ _ _ => (de_tup (da_cons (de_ix ix_seq od_ix (de_var 0) de_int (fun _ _ => rfl)) (da_cons (de_ix ix_seq od_ix (de_var 0) de_int (fun _ _ => rfl)) da_nil)))))) (de_lit (n := 12) rfl)))))
end
end K02
set_option maxRecDepth 100000
set_option maxHeartbeats 4000000
namespace K02
open PySem L2 DL
section
variable {P : Program} {w : World} {K : PySem.W.Frag} {mg : Str → Option Value} {base : Heap} {t : Adr}
theorem ok_Lsigns (T : Txt P w K mg t) : Ok P w K mg base 1 "_law_signs" ["_law_ops"] (g_Lsigns) :=
  ok_of (own' := []) (k := 0) T.d_Lsigns sc_Lsigns (fun fad cdv A outer s H E hr => (dss_cons (ds_new (i := 1) sc_Lsigns.nd rfl (Or.inl rfl) (da_cons de_non (da_cons (de_lit (n := 10) rfl) da_nil)))
      (dss_cons (ds_for PassesOwn.never rfl (di_list (de_var 0)) sc_Lsigns.nd rfl (Or.inl rfl) (dss_one (ds_if (dt_cmp (op_eqD (Room.units hr)) od_eqD (de_ix ix_seq od_ix (de_ix ix_seq od_ix (de_var 2) de_int (fun _ _ => rfl)) de_int (fun _ _ => rfl)) de_str (nomark _)) (dss_one (ds_for PassesOwn.never rfl (di_range rfl T.b_range (de_callB call_len cd_len rfl T.b_len bo_len (da_cons (de_ix ix_seq od_ix (de_ix ix_seq od_ix (de_var 2) de_int (fun _ _ => rfl)) de_int (fun _ _ => rfl)) da_nil))) sc_Lsigns.nd rfl (Or.inl rfl) (dss_one (ds_append (i := 1) (by decide) (de_tup (da_cons (de_ix ix_seq od_ix (de_var 2) de_int (fun _ _ => rfl)) (da_cons (de_ix ix_seq od_ix (de_var 2) de_int (fun _ _ => rfl)) (da_cons (de_var 3) da_nil)))))))) dss_nil)))
      (dss_free (dss_one (ds_ret (de_var 1)))))))
end
end K02
set_option maxRecDepth 100000
set_option maxHeartbeats 4000000
namespace K02
open PySem L2 DL
section
variable {P : Program} {w : World} {K : PySem.W.Frag} {mg : Str → Option Value} {base : Heap} {t : Adr}
theorem ok_Ltext (T : Txt P w K mg t) : Ok P w K mg base 1 "_law_text" ["_law_number_here", "_law_most"] (g_Ltext) :=
  ok_of (own' := []) (k := 0) T.d_Ltext sc_Ltext (fun fad cdv A outer s H E hr => (dss_cons (ds_set (i := 2) sc_Ltext.nd rfl (Or.inr rfl) de_str)
      (dss_one (ds_ret (de_join de_str (de_comp (NL := ["_law_k"]) (NF := ["_law_number_here", "_law_letters"]) (ix := [0, 2]) rfl (by decide) (by decide +kernel) (comp_free (sc := defScope st_Ltext) rfl (by decide +kernel)) (CapN.cons (j := 0) (CapN.cons (j := 2) CapN.nil)) (by decide) rfl (di_range rfl T.b_range (de_op op_addAll od_add de_int (de_op op_mod om_mod (de_var 0) (de_var 1)))) (fun _ _ _ _ _ => pg_name (i := 0) (show (["_law_k", "_law_number_here", "_law_letters"] : List Str).Nodup by decide +kernel) rfl (Or.inl rfl)) (gd_name 0) (fun _ _ _ _ _ => pifs0) (fun _ _ _ _ _ => (de_ix ix_seq od_ix (de_var 2) (de_op op_mod om_mod (de_op op_fdiv om_fdiv (de_var 1) (de_op op_addAll od_add de_int (de_op op_mul om_mul de_int (de_var 0)))) de_int) (fun _ _ => rfl)))))))))
end
end K02
set_option maxRecDepth 100000
set_option maxHeartbeats 4000000
namespace K02
open PySem L2 DL
section
variable {P : Program} {w : World} {K : PySem.W.Frag} {mg : Str → Option Value} {base : Heap} {t : Adr}
theorem ok_Lpick (T : Txt P w K mg t) : Ok P w K mg base 1 "_law_pick" ["_law_rows", "_law_number_here"] (g_Lpick) :=
  ok_of (own' := []) (k := 0) T.d_Lpick sc_Lpick (fun fad cdv A outer s H E hr => (dss_one (ds_ret (de_ix ix_seq od_ix (de_var 0) (de_op op_mod om_mod (de_var 1) (de_callB call_len cd_len rfl T.b_len bo_len (da_cons (de_var 0) da_nil))) (fun _ _ => rfl)))))
end
end K02
set_option maxRecDepth 100000
set_option maxHeartbeats 4000000
namespace K02
open PySem L2 DL
section
variable {P : Program} {w : World} {K : PySem.W.Frag} {mg : Str → Option Value} {base : Heap} {t : Adr}
theorem ok_Ldeed (T : Txt P w K mg t) : Ok P w K mg base 3 "_law_deed" ["_law_script", "_law_base", "_law_ops", "_law_most"] (g_Ldeed) :=
  ok_of (own' := []) (k := 2) T.d_Ldeed sc_Ldeed (fun fad cdv A outer s H E hr => (dss_cons (ds_set (i := 4) sc_Ldeed.nd rfl (Or.inl rfl) (de_callO (ok_Lmix T) (hr.mono (by decide)) rfl (da_cons (de_var 0) (da_cons (de_var 1) da_nil)) (len_cons (len_cons (fun _ _ h => len_nil h)))))
      (dss_cons (ds_set (i := 5) sc_Ldeed.nd rfl (Or.inl rfl) (de_callO (ok_Litems T) (hr.mono (by decide)) rfl (da_cons (de_var 2) da_nil) (len_cons (fun _ _ h => len_nil h))))
      (dss_cons (ds_set (i := 6) sc_Ldeed.nd rfl (Or.inl rfl) (de_callO (ok_Lpick T) (hr.mono (by decide)) rfl (da_cons (de_op op_addAll od_add (de_slice (de_var 5) (do_some de_int) do_none) (de_slice (de_var 5) do_none (do_some de_int))) (da_cons (de_callO (ok_Lmix T) (hr.mono (by decide)) rfl (da_cons (de_var 0) (da_cons (de_op op_addAll od_add (de_var 1) de_int) da_nil)) (len_cons (len_cons (fun _ _ h => len_nil h)))) da_nil)) (len_cons (len_cons (fun _ _ h => len_nil h)))))
      (dss_cons (ds_set (i := 7) sc_Ldeed.nd rfl (Or.inl rfl) (de_callO (ok_Lpick T) (hr.mono (by decide)) rfl (da_cons (de_op op_addAll od_add (de_var 5) (de_lit (n := 9) rfl)) (da_cons (de_callO (ok_Lmix T) (hr.mono (by decide)) rfl (da_cons (de_var 0) (da_cons (de_op op_addAll od_add (de_var 1) de_int) da_nil)) (len_cons (len_cons (fun _ _ h => len_nil h)))) da_nil)) (len_cons (len_cons (fun _ _ h => len_nil h)))))
      (dss_cons (ds_if (dt_val (de_isi isi_str rfl T.b_isinstance rfl T.b_str bo_isinstance bo_str (de_var 7))) (dss_one (ds_set (i := 7) sc_Ldeed.nd rfl (Or.inl rfl) de_non)) dss_nil)
      (dss_cons (ds_set (i := 8) sc_Ldeed.nd rfl (Or.inl rfl) (de_lit (n := 19) rfl))
      (dss_cons (ds_set (i := 9) sc_Ldeed.nd rfl (Or.inl rfl) (de_ix ix_seq od_ix (de_var 8) (de_op op_mod om_mod (de_var 4) de_int) (fun _ _ => rfl)))
      (dss_cons (ds_if (dt_cmp (op_eqD (Room.units hr)) od_eqD (de_var 9) de_str (nomark _)) (dss_one (ds_ret (de_tup (da_cons (de_var 9) (da_cons (de_callO (ok_Lpick T) (hr.mono (by decide)) rfl (da_cons (de_var 5) (da_cons (de_callO (ok_Lmix T) (hr.mono (by decide)) rfl (da_cons (de_var 0) (da_cons (de_op op_addAll od_add (de_var 1) de_int) da_nil)) (len_cons (len_cons (fun _ _ h => len_nil h)))) da_nil)) (len_cons (len_cons (fun _ _ h => len_nil h)))) (da_cons (de_var 7) da_nil)))))) dss_nil)
      (dss_cons (ds_if (dt_cmp (op_eqD (Room.units hr)) od_eqD (de_var 9) de_str (nomark _)) (dss_one (ds_ret (de_tup (da_cons (de_var 9) (da_cons (de_var 6) (da_cons (de_callO (ok_Lpick T) (hr.mono (by decide)) rfl (da_cons (de_var 5) (da_cons (de_callO (ok_Lmix T) (hr.mono (by decide)) rfl (da_cons (de_var 0) (da_cons (de_op op_addAll od_add (de_var 1) de_int) da_nil)) (len_cons (len_cons (fun _ _ h => len_nil h)))) da_nil)) (len_cons (len_cons (fun _ _ h => len_nil h)))) (da_cons (de_var 7) da_nil))))))) dss_nil)
      (dss_cons (ds_if (dt_cmp (op_eqD (Room.units hr)) od_eqD (de_var 9) de_str (nomark _)) (dss_one (ds_ret (de_tup (da_cons (de_var 9) (da_cons (de_var 6) da_nil))))) dss_nil)
      (dss_cons (ds_set (i := 10) sc_Ldeed.nd rfl (Or.inl rfl) (de_callO (ok_Lpick T) (hr.mono (by decide)) rfl (da_cons (de_callO (ok_Lsigns T) (hr.mono (by decide)) rfl (da_cons (de_var 2) da_nil) (len_cons (fun _ _ h => len_nil h))) (da_cons (de_callO (ok_Lmix T) (hr.mono (by decide)) rfl (da_cons (de_var 0) (da_cons (de_op op_addAll od_add (de_var 1) de_int) da_nil)) (len_cons (len_cons (fun _ _ h => len_nil h)))) da_nil)) (len_cons (len_cons (fun _ _ h => len_nil h)))))
      (dss_cons (ds_if (dt_cmp (op_eqD (Room.units hr)) od_eqD (de_var 9) de_str (nomark _)) (dss_one (ds_ret (de_tup (da_cons (de_var 9) (da_cons (de_var 6) (da_cons (de_var 10) (da_cons (de_callO (ok_Ltext T) (hr.mono (by decide)) rfl (da_cons (de_callO (ok_Lmix T) (hr.mono (by decide)) rfl (da_cons (de_var 0) (da_cons (de_op op_addAll od_add (de_var 1) de_int) da_nil)) (len_cons (len_cons (fun _ _ h => len_nil h)))) (da_cons (de_var 3) da_nil)) (len_cons (len_cons (fun _ _ h => len_nil h)))) da_nil))))))) dss_nil)
      (dss_cons (ds_if (dt_w (dw_and (dt_cmp (op_eqD (Room.units hr)) od_eqD (de_var 9) de_str (nomark _)) (dw_and1 (dt_cmp op_notN od_notN (de_var 10) de_non (nomark _))))) (dss_one (ds_ret (de_tup (da_cons (de_var 9) (da_cons (de_var 6) (da_cons (de_var 10) (da_cons (de_op op_addAll od_add de_int (de_op op_mod om_mod (de_op op_fdiv om_fdiv (de_var 4) de_int) (de_op op_sub od_sub de_int (de_ix ix_seq od_ix (de_var 10) de_int (fun _ _ => rfl))))) da_nil))))))) dss_nil)
      (dss_cons (ds_if (dt_cmp op_in_seq od_in (de_var 9) (de_lit (n := 9) rfl) rfl) (dss_one (ds_ret (de_tup (da_cons de_str (da_cons (de_var 6) (da_cons (de_op op_mod om_mod (de_op op_fdiv om_fdiv (de_var 4) de_int) de_int) (da_cons (de_op op_sub od_sub (de_op op_mod om_mod (de_op op_fdiv om_fdiv (de_var 4) de_int) de_int) de_int) da_nil))))))) dss_nil)
      (dss_cons (ds_set (i := 11) sc_Ldeed.nd rfl (Or.inl rfl) (de_op op_addAll od_add (de_comp (NL := ["_law_one"]) (NF := []) (ix := []) rfl (by decide) (by decide +kernel) (comp_free (sc := defScope st_Ldeed) rfl (by decide +kernel)) CapN.nil (by decide) rfl (di_list (de_var 2)) (fun _ _ _ _ _ => pg_name (i := 0) (show (["_law_one"] : List Str).Nodup by decide +kernel) rfl (Or.inl rfl)) (gd_name 0) (fun _ _ _ _ _ => pifs0) (fun _ _ _ _ _ => (de_tup (da_cons (de_ix ix_seq od_ix (de_var 0) de_int (fun _ _ => rfl)) (da_cons (de_ix ix_seq od_ix (de_var 0) de_int (fun _ _ => rfl)) da_nil))))) (de_lst (da_cons (de_tup (da_cons de_int (da_cons (de_op op_addAll od_add de_int (de_op op_mod om_mod (de_var 4) de_int)) da_nil))) da_nil))))
      (dss_one (ds_ret (de_tup (da_cons (de_var 9) (da_cons (de_callO (ok_Lpick T) (hr.mono (by decide)) rfl (da_cons (de_var 11) (da_cons (de_callO (ok_Lmix T) (hr.mono (by decide)) rfl (da_cons (de_var 0) (da_cons (de_op op_addAll od_add (de_var 1) de_int) da_nil)) (len_cons (len_cons (fun _ _ h => len_nil h)))) da_nil)) (len_cons (len_cons (fun _ _ h => len_nil h)))) da_nil)))))))))))))))))))))
end
end K02
set_option maxRecDepth 100000
set_option maxHeartbeats 4000000
namespace K02
open PySem L2 DL
section
variable {P : Program} {w : World} {K : PySem.W.Frag} {mg : Str → Option Value} {base : Heap} {t : Adr}
theorem ok_Lworld (T : Txt P w K mg t) : Ok P w K mg base 4 "_law_world" ["_law_script", "_law_base", "_law_many"] (g_Lworld) :=
  ok_of (own' := []) (k := 3) T.d_Lworld sc_Lworld (fun fad cdv A outer s H E hr => (dss_cons (ds_new (i := 3) sc_Lworld.nd rfl (Or.inl rfl) da_nil)
      (dss_cons (ds_new (i := 4) sc_Lworld.nd rfl (Or.inl rfl) (da_cons de_int (da_cons de_int (da_cons de_int da_nil))))
      (dss_cons (ds_new (i := 5) sc_Lworld.nd rfl (Or.inl rfl) (da_cons de_int (da_cons de_int (da_cons de_int da_nil))))
      (dss_cons (ds_for PassesOwn.never rfl (di_range rfl T.b_range (de_var 2)) sc_Lworld.nd rfl (Or.inl rfl) (dss_cons (ds_set (i := 7) sc_Lworld.nd rfl (Or.inl rfl) (de_callO (ok_Lmix T) (hr.mono (by decide)) rfl (da_cons (de_var 0) (da_cons (de_op op_addAll od_add (de_var 1) (de_op op_mul om_mul de_int (de_var 6))) da_nil)) (len_cons (len_cons (fun _ _ h => len_nil h)))))
      (dss_cons (ds_set (i := 8) sc_Lworld.nd rfl (Or.inl rfl) (de_op op_mod om_mod (de_var 7) de_int))
      (dss_cons (ds_put (i := 4) (by decide) (de_var 8) (de_op op_addAll od_add (de_ixO (i := 4) (by decide) (de_var 8) (fun _ _ => rfl)) de_int))
      (dss_cons (ds_put (i := 5) (by decide) (de_var 8) (de_op op_addAll od_add (de_op op_addAll od_add (de_ixO (i := 5) (by decide) (de_var 8) (fun _ _ => rfl)) de_int) (de_op op_mod om_mod (de_op op_fdiv om_fdiv (de_var 7) de_int) de_int)))
      (dss_cons (ds_set (i := 9) sc_Lworld.nd rfl (Or.inl rfl) (de_full (de_callO (ok_Ldeed T) (hr.mono (by decide)) rfl (da_cons (de_var 0) (da_cons (de_op op_addAll od_add (de_op op_addAll od_add (de_var 1) (de_op op_mul om_mul de_int (de_var 6))) de_int) (da_cons (de_var 3) (da_cons de_int da_nil)))) (len_cons (len_cons (len_cons (len_cons (fun _ _ h => len_nil h))))))))
      (dss_one (ds_append (i := 3) (by decide) (de_tup (da_cons (de_ix ix_seq od_ix (de_lit (n := 10) rfl) (de_var 8) (fun _ _ => rfl)) (da_cons (de_ixO (i := 4) (by decide) (de_var 8) (fun _ _ => rfl)) (da_cons (de_ixO (i := 5) (by decide) (de_var 8) (fun _ _ => rfl)) (da_cons (de_var 9) da_nil)))))))))))))
      (dss_free (dss_one (ds_ret (de_var 3)))))))))
end
end K02
set_option maxRecDepth 100000
set_option maxHeartbeats 4000000
namespace K02
open PySem L2 DL
section
variable {P : Program} {w : World} {K : PySem.W.Frag} {mg : Str → Option Value} {base : Heap} {t : Adr}
theorem ok_Lword (T : Txt P w K mg t) : Ok P w K mg base 1 "_law_word" ["_law_part"] (g_Lword) :=
  ok_of (own' := []) (k := 0) T.d_Lword sc_Lword (fun fad cdv A outer s H E hr => (dss_cons (ds_if (dt_cmp op_isN od_isN (de_var 0) de_non (nomark _)) (dss_one (ds_ret de_str)) dss_nil)
      (dss_cons (ds_if (dt_val (de_isi isi_tuple rfl T.b_isinstance rfl T.b_tuple bo_isinstance bo_tuple (de_var 0))) (dss_one (ds_ret (de_join de_str (de_comp (NL := ["_law_one"]) (NF := []) (ix := []) rfl (by decide) (by decide +kernel) (comp_free (sc := defScope st_Lword) rfl (by decide +kernel)) CapN.nil (by decide) rfl (di_tup (de_var 0)) (fun _ _ _ _ _ => pg_name (i := 0) (show (["_law_one"] : List Str).Nodup by decide +kernel) rfl (Or.inl rfl)) (gd_name 0) (fun _ _ _ _ _ => pifs0) (fun _ _ _ _ _ => (de_callTy call_str cd_str rfl T.b_str bo_str (da_cons (de_var 0) da_nil))))))) dss_nil)
      (dss_one (ds_ret (de_callTy call_str cd_str rfl T.b_str bo_str (da_cons (de_var 0) da_nil)))))))
end
end K02
set_option maxRecDepth 100000
set_option maxHeartbeats 4000000
namespace K02
open PySem L2 DL
section
variable {P : Program} {w : World} {K : PySem.W.Frag} {mg : Str → Option Value} {base : Heap} {t : Adr}
theorem ok_Ltuples (T : Txt P w K mg t) : Ok P w K mg base 1 "_law_tuples" ["_law_thing"] (g_Ltuples) :=
  ok_of (own' := []) (k := 0) T.d_Ltuples sc_Ltuples (fun fad cdv A outer s H E hr => (dss_one (ds_ret (de_callB (call_all rfl) cd_all rfl T.b_all bo_all (da_cons (de_comp (NL := ["_law_part"]) (NF := []) (ix := []) rfl (by decide) (by decide +kernel) (comp_free (sc := defScope st_Ltuples) rfl (by decide +kernel)) CapN.nil (by decide) rfl (di_tup (de_var 0)) (fun _ _ _ _ _ => pg_name (i := 0) (show (["_law_part"] : List Str).Nodup by decide +kernel) rfl (Or.inl rfl)) (gd_name 0) (fun _ _ _ _ _ => pifs0) (fun _ _ _ _ _ => (de_or (de_isi3 isi_int isi_str isi_tuple rfl T.b_isinstance bo_isinstance rfl T.b_int bo_int rfl T.b_str bo_str rfl T.b_tuple bo_tuple (de_var 0)) (de_one (de_cmp op_isN od_isN (de_var 0) de_non (nomark _)))))) da_nil)))))
end
end K02
set_option maxRecDepth 100000
set_option maxHeartbeats 4000000
namespace K02
open PySem L2 DL
def Adr.nd (t : Adr) : Prop := [t.is_item, t.is_sibling, t.is_behind, t.is_text, t.is_sign_name, t.is_from_one, t.is_place, t.is_whole, t.is_name].Nodup
def spLaw (K : PySem.W.Frag) : Sp := fun vs H Q E => ∀ t : Adr, t.nd → spF K 1 (g_law t) vs H Q E
section
variable {P : Program} {w : World} {K : PySem.W.Frag} {mg : Str → Option Value} {h : Heap}
theorem all_mk {fa t_is_item t_is_sibling t_is_behind t_is_text t_is_sign_name t_is_from_one t_is_place t_is_whole t_is_name : Addr} (hfa : mg "law" = some (.ref fa)) (d_is_whole : Def K mg "is_whole" st_is_whole ["thing"])
    (d_is_below : Def K mg "is_below" st_is_below ["thing", "limit"])
    (d_is_from_one : Def K mg "is_from_one" st_is_from_one ["thing"])
    (d_is_name : Def K mg "is_name" st_is_name ["thing"])
    (d_is_sign_name : Def K mg "is_sign_name" st_is_sign_name ["thing"])
    (d_is_item : Def K mg "is_item" st_is_item ["thing"])
    (d_is_sibling : Def K mg "is_sibling" st_is_sibling ["thing"])
    (d_is_behind : Def K mg "is_behind" st_is_behind ["thing"])
    (d_is_sign : Def K mg "is_sign" st_is_sign ["sign"])
    (d_is_text : Def K mg "is_text" st_is_text ["thing"])
    (d_is_place : Def K mg "is_place" st_is_place ["thing"])
    (d_are_parts : Def K mg "are_parts" st_are_parts ["parts", "checks"])
    (d_is_deed : Def K mg "is_deed" st_is_deed ["thing"])
    (d_is_operation : Def K mg "is_operation" st_is_operation ["thing"])
    (d_word_of : Def K mg "word_of" st_word_of ["part"])
    (d_shown : Def K mg "shown" st_shown ["operation"])
    (d_number_of : Def K mg "number_of" st_number_of ["word"])
    (d_part_of : Def K mg "part_of" st_part_of ["word"])
    (d_deed_of : Def K mg "deed_of" st_deed_of ["words"])
    (d_read : Def K mg "read" st_read ["line"])
    (d_Lcell : Def K mg "_law_cell" st_Lcell ["_law_script", "_law_k"])
    (d_Lmix : Def K mg "_law_mix" st_Lmix ["_law_script", "_law_k"])
    (d_Litems : Def K mg "_law_items" st_Litems ["_law_ops"])
    (d_Lsigns : Def K mg "_law_signs" st_Lsigns ["_law_ops"])
    (d_Ltext : Def K mg "_law_text" st_Ltext ["_law_number_here", "_law_most"])
    (d_Lpick : Def K mg "_law_pick" st_Lpick ["_law_rows", "_law_number_here"])
    (d_Ldeed : Def K mg "_law_deed" st_Ldeed ["_law_script", "_law_base", "_law_ops", "_law_most"])
    (d_Lworld : Def K mg "_law_world" st_Lworld ["_law_script", "_law_base", "_law_many"])
    (d_Lword : Def K mg "_law_word" st_Lword ["_law_part"])
    (d_Ltuples : Def K mg "_law_tuples" st_Ltuples ["_law_thing"])
    (dl : DefL K mg "law" st_law ["_law_script"])
    (b_abs : mg "abs" = none)
    (b_all : mg "all" = none)
    (b_bool : mg "bool" = none)
    (b_int : mg "int" = none)
    (b_isinstance : mg "isinstance" = none)
    (b_len : mg "len" = none)
    (b_ord : mg "ord" = none)
    (b_range : mg "range" = none)
    (b_str : mg "str" = none)
    (b_tuple : mg "tuple" = none)
    (b_zip : mg "zip" = none)
    (c_HANDS : ∃ tk, mg "HANDS" = some (.int 16 tk))
    (c_SIGNS : ∃ tk, mg "SIGNS" = some (.int 16 tk))
    (c_PLACES : ∃ tk, mg "PLACES" = some (.int 4 tk))
    (c_LEFT_OUT : ∃ tk, mg "LEFT_OUT" = some (.int 37 tk))
    (a_is_item : mg "is_item" = some (.ref t_is_item))
    (a_is_sibling : mg "is_sibling" = some (.ref t_is_sibling))
    (a_is_behind : mg "is_behind" = some (.ref t_is_behind))
    (a_is_text : mg "is_text" = some (.ref t_is_text))
    (a_is_sign_name : mg "is_sign_name" = some (.ref t_is_sign_name))
    (a_is_from_one : mg "is_from_one" = some (.ref t_is_from_one))
    (a_is_place : mg "is_place" = some (.ref t_is_place))
    (a_is_whole : mg "is_whole" = some (.ref t_is_whole))
    (a_is_name : mg "is_name" = some (.ref t_is_name))
    (g_PARTS : ∀ X : Cx, X.prog = P → X.w = w → X.K = K → X.mg = mg → GDict X "PARTS" (tab_PARTS ⟨t_is_item, t_is_sibling, t_is_behind, t_is_text, t_is_sign_name, t_is_from_one, t_is_place, t_is_whole, t_is_name⟩))
    (nd : Adr.nd ⟨t_is_item, t_is_sibling, t_is_behind, t_is_text, t_is_sign_name, t_is_from_one, t_is_place, t_is_whole, t_is_name⟩) :
    ∃ fd : FuncData, (∀ (s : Shared) (u : Value), BindsTo s fd ⟨[u], []⟩ [("_law_script", u)]) ∧ ∀ base : Heap, K.In base → base.Ns mainGlobals mg → FnOk P w K mg base CX0 10 fa fd ["_law_script"] (spLaw K) := by
  have d_law : Def K mg "law" st_law ["_law_script"] := by
    obtain ⟨f, fd, F, B, m⟩ := dl
    exact ⟨f, fd, F, .all B, m⟩
  have T : Txt P w K mg ⟨t_is_item, t_is_sibling, t_is_behind, t_is_text, t_is_sign_name, t_is_from_one, t_is_place, t_is_whole, t_is_name⟩ := ⟨d_is_whole, d_is_below, d_is_from_one, d_is_name, d_is_sign_name, d_is_item, d_is_sibling, d_is_behind, d_is_sign, d_is_text, d_is_place, d_are_parts, d_is_deed, d_is_operation, d_word_of, d_shown, d_number_of, d_part_of, d_deed_of, d_read, d_Lcell, d_Lmix, d_Litems, d_Lsigns, d_Ltext, d_Lpick, d_Ldeed, d_Lworld, d_Lword, d_Ltuples, d_law, b_abs, b_all, b_bool, b_int, b_isinstance, b_len, b_ord, b_range, b_str, b_tuple, b_zip, c_HANDS, c_SIGNS, c_PLACES, c_LEFT_OUT, a_is_item, a_is_sibling, a_is_behind, a_is_text, a_is_sign_name, a_is_from_one, a_is_place, a_is_whole, a_is_name, g_PARTS⟩
  obtain ⟨fd, h1, h2⟩ := law_of (own' := []) (k := 9) (P := P) (w := w) (q := q_law ⟨t_is_item, t_is_sibling, t_is_behind, t_is_text, t_is_sign_name, t_is_from_one, t_is_place, t_is_whole, t_is_name⟩) dl sc_law hfa (fun base fad cdv A outer s H E hr => (dss_cons (ds_set (i := 1) sc_law.nd rfl (Or.inl rfl) (de_callO (ok_Lworld T) (hr.mono (by decide)) rfl (da_cons (de_var 0) (da_cons de_int (da_cons de_int da_nil))) (len_cons (len_cons (len_cons (fun _ _ h => len_nil h))))))
      (dss_cons (ds_set (i := 2) sc_law.nd rfl (Or.inl rfl) (de_callO (ok_Ldeed T) (hr.mono (by decide)) rfl (da_cons (de_var 0) (da_cons de_int (da_cons (de_var 1) (da_cons de_int da_nil)))) (len_cons (len_cons (len_cons (len_cons (fun _ _ h => len_nil h)))))))
      (dss_cons (ds_set (i := 3) sc_law.nd rfl (Or.inl rfl) (de_op op_mod om_mod (de_callO (ok_Lcell T) (hr.mono (by decide)) rfl (da_cons (de_var 0) (da_cons de_int da_nil)) (len_cons (len_cons (fun _ _ h => len_nil h)))) (de_op op_pow om_pow de_int de_int)))
      (dss_cons (ds_if (dt_w (dw_and (dt_cmp (op_eqD (Room.units hr)) od_eqD (de_ix ix_seq od_ix (de_var 2) de_int (fun _ _ => rfl)) de_str (nomark _)) (dw_and1 (dt_cmp (op_eqD (Room.units hr)) od_eqD (de_op op_mod om_mod (de_callO (ok_Lmix T) (hr.mono (by decide)) rfl (da_cons (de_var 0) (da_cons de_int da_nil)) (len_cons (len_cons (fun _ _ h => len_nil h)))) de_int) de_int (nomark _))))) (dss_one (ds_set (i := 2) sc_law.nd rfl (Or.inl rfl) (de_op op_addAll od_add (de_slice (de_var 2) do_none (do_some de_int)) (de_tup (da_cons (de_ix ix_seq od_ix (de_lst (da_cons (de_var 3) (da_cons (de_neg (de_var 3)) da_nil))) (de_op op_mod om_mod (de_callO (ok_Lmix T) (hr.mono (by decide)) rfl (da_cons (de_var 0) (da_cons de_int da_nil)) (len_cons (len_cons (fun _ _ h => len_nil h)))) de_int) (fun _ _ => rfl)) da_nil))))) dss_nil)
      (dss_cons (ds_set (i := 4) sc_law.nd rfl (Or.inl rfl) (de_op op_addAll od_add de_int (de_op op_mod om_mod (de_ix ix_seq od_ix (de_lst (da_cons (de_var 3) (da_cons de_int da_nil))) (de_op op_mod om_mod (de_callO (ok_Lmix T) (hr.mono (by decide)) rfl (da_cons (de_var 0) (da_cons de_int da_nil)) (len_cons (len_cons (fun _ _ h => len_nil h)))) de_int) (fun _ _ => rfl)) (de_op op_sub od_sub (de_op op_pow om_pow de_int de_int) de_int))))
      (dss_cons (ds_set (i := 5) sc_law.nd rfl (Or.inl rfl) (de_tup (da_cons (de_op op_mod om_mod (de_callO (ok_Lmix T) (hr.mono (by decide)) rfl (da_cons (de_var 0) (da_cons de_int da_nil)) (len_cons (len_cons (fun _ _ h => len_nil h)))) de_int) (da_cons (de_op op_addAll od_add de_int (de_op op_mod om_mod (de_callO (ok_Lmix T) (hr.mono (by decide)) rfl (da_cons (de_var 0) (da_cons de_int da_nil)) (len_cons (len_cons (fun _ _ h => len_nil h)))) de_int)) (da_cons (de_var 4) (da_cons (de_var 2) da_nil))))))
      (dss_cons (ds_set (i := 6) sc_law.nd rfl (Or.inl rfl) (de_join de_str (de_op op_addAll od_add (de_comp (NL := ["_law_part"]) (NF := []) (ix := []) rfl (by decide) (by decide +kernel) (comp_free (sc := defScope st_law) rfl (by decide +kernel)) CapN.nil (by decide) rfl (di_tup (de_slice (de_var 5) do_none (do_some de_int))) (fun _ _ _ _ _ => pg_name (i := 0) (show (["_law_part"] : List Str).Nodup by decide +kernel) rfl (Or.inl rfl)) (gd_name 0) (fun _ _ _ _ _ => pifs0) (fun _ _ _ _ _ => (de_callTy call_str cd_str rfl T.b_str bo_str (da_cons (de_var 0) da_nil)))) (de_comp (NL := ["_law_part"]) (NF := []) (ix := []) rfl (by decide) (by decide +kernel) (comp_free (sc := defScope st_law) rfl (by decide +kernel)) CapN.nil (by decide) rfl (di_tup (de_var 2)) (fun _ _ _ _ _ => pg_name (i := 0) (show (["_law_part"] : List Str).Nodup by decide +kernel) rfl (Or.inl rfl)) (gd_name 0) (fun _ _ _ _ _ => pifs0) (fun _ _ _ _ _ => (de_callO (ok_Lword T) (hr.mono (by decide)) rfl (da_cons (de_var 0) da_nil) (len_cons (fun _ _ h => len_nil h))))))))
      (dss_cons (ds_set (i := 7) sc_law.nd rfl (Or.inl rfl) (de_callO (ok_shown T) (hr.mono (by decide)) rfl (da_cons (de_var 5) da_nil) (len_cons (fun _ _ h => len_nil h))))
      (dss_cons (ds_if (dt_w (dw_or (dt_not (dt_val (de_isi isi_str rfl T.b_isinstance rfl T.b_str bo_isinstance bo_str (de_var 7)))) (dw_or1 (dt_cmp op_ne om_ne (de_var 7) (de_var 6) (nomark _))))) (dss_one (ds_ret de_bl)) dss_nil)
      (dss_cons (ds_set (i := 8) sc_law.nd rfl (Or.inl rfl) (de_callO (ok_read T) (hr.mono (by decide)) rfl (da_cons (de_var 7) da_nil) (len_cons (fun _ _ h => len_nil h))))
      (dss_one (ds_ret (de_and (de_isi isi_tuple rfl T.b_isinstance rfl T.b_tuple bo_isinstance bo_tuple (de_var 8)) (de_and (de_isi isi_tuple rfl T.b_isinstance rfl T.b_tuple bo_isinstance bo_tuple (de_ix ix_seq od_ix (de_var 8) de_int (fun _ _ => rfl))) (de_and (de_cmp (op_eqD (Room.units hr)) od_eqD (de_var 8) (de_var 5) (nomark _)) (de_one (de_callO (ok_Ltuples T) (hr.mono (by decide)) rfl (da_cons (de_ix ix_seq od_ix (de_var 8) de_int (fun _ _ => rfl)) da_nil) (len_cons (fun _ _ h => len_nil h))))))))))))))))))))
  exact ⟨fd, h1, fun base i g => (h2 base i g).imp fun vs H Q E z => z _ nd⟩
theorem gparts_mk {ad t_is_item t_is_sibling t_is_behind t_is_text t_is_sign_name t_is_from_one t_is_place t_is_whole t_is_name r0 r1 r2 r3 r4 r5 r6 r7 : Addr} {k0 k1 k2 k3 k4 k5 k6 k7 : Tok} {o0 o1 o2 o3 o4 o5 o6 o7 : Option Addr} {n0 n1 n2 n3 n4 n5 n6 n7 ep : Nat} {s0 s1 s2 s3 s4 s5 s6 s7 : Array (Option Value)} (X : K.In h) (G : h.Ns mainGlobals mg)
    (ga : PySem.W.nsIn K mainGlobals "PARTS" = some (some (.ref ad))) (gl : K.lookup ad = some { cls := .type "dict", data := .dict #[⟨PyData.keyHash w.params "put", .str "put" k0, .ref r0⟩, ⟨PyData.keyHash w.params "move", .str "move" k1, .ref r1⟩, ⟨PyData.keyHash w.params "drop", .str "drop" k2, .ref r2⟩, ⟨PyData.keyHash w.params "write", .str "write" k3, .ref r3⟩, ⟨PyData.keyHash w.params "cut", .str "cut" k4, .ref r4⟩, ⟨PyData.keyHash w.params "set", .str "set" k5, .ref r5⟩, ⟨PyData.keyHash w.params "undo", .str "undo" k6, .ref r6⟩, ⟨PyData.keyHash w.params "redo", .str "redo" k7, .ref r7⟩] ep }) (gs : (ad == sysModules) = false)
    (l0 : K.lookup r0 = some ⟨.type "tuple", o0, .seq #[.ref t_is_item, .ref t_is_sibling] n0, s0⟩)
    (l1 : K.lookup r1 = some ⟨.type "tuple", o1, .seq #[.ref t_is_item, .ref t_is_item, .ref t_is_sibling] n1, s1⟩)
    (l2 : K.lookup r2 = some ⟨.type "tuple", o2, .seq #[.ref t_is_item] n2, s2⟩)
    (l3 : K.lookup r3 = some ⟨.type "tuple", o3, .seq #[.ref t_is_item, .ref t_is_behind, .ref t_is_text] n3, s3⟩)
    (l4 : K.lookup r4 = some ⟨.type "tuple", o4, .seq #[.ref t_is_item, .ref t_is_sign_name, .ref t_is_from_one] n4, s4⟩)
    (l5 : K.lookup r5 = some ⟨.type "tuple", o5, .seq #[.ref t_is_item, .ref t_is_place, .ref t_is_whole] n5, s5⟩)
    (l6 : K.lookup r6 = some ⟨.type "tuple", o6, .seq #[.ref t_is_name] n6, s6⟩)
    (l7 : K.lookup r7 = some ⟨.type "tuple", o7, .seq #[.ref t_is_name] n7, s7⟩)
    : ∀ X : Cx, X.prog = P → X.w = w → X.K = K → X.mg = mg → GDict X "PARTS" (tab_PARTS ⟨t_is_item, t_is_sibling, t_is_behind, t_is_text, t_is_sign_name, t_is_from_one, t_is_place, t_is_whole, t_is_name⟩) := fun Y e1 e2 e3 e4 =>
  gdict_mk (rows := [("put", k0, r0), ("move", k1, r1), ("drop", k2, r2), ("write", k3, r3), ("cut", k4, r4), ("set", k5, r5), ("undo", k6, r6), ("redo", k7, r7)]) (w := w) e2 e3 e4 (gref_mk X G ga) gs gl (show (["put", "move", "drop", "write", "cut", "set", "undo", "redo"] : List Str).Nodup by decide +kernel) ⟨rfl, rep_fnsK (fs := [t_is_item, t_is_sibling]) l0 (by show 2 ≤ 1000; decide), rfl, rep_fnsK (fs := [t_is_item, t_is_item, t_is_sibling]) l1 (by show 3 ≤ 1000; decide), rfl, rep_fnsK (fs := [t_is_item]) l2 (by show 1 ≤ 1000; decide), rfl, rep_fnsK (fs := [t_is_item, t_is_behind, t_is_text]) l3 (by show 3 ≤ 1000; decide), rfl, rep_fnsK (fs := [t_is_item, t_is_sign_name, t_is_from_one]) l4 (by show 3 ≤ 1000; decide), rfl, rep_fnsK (fs := [t_is_item, t_is_place, t_is_whole]) l5 (by show 3 ≤ 1000; decide), rfl, rep_fnsK (fs := [t_is_name]) l6 (by show 1 ≤ 1000; decide), rfl, rep_fnsK (fs := [t_is_name]) l7 (by show 1 ≤ 1000; decide), trivial⟩
end
end K02
set_option maxRecDepth 100000
set_option maxHeartbeats 1000000
namespace K02
open PySem L2 DL
def okSign (c : Nat) : Bool := decide (32 ≤ c) && decide (c ≤ 126) && !(c == 37)
def okStr (s : Str) : Bool := decide (s.length ≤ 1000) && s.cps.toList.all okSign
def nice (b : Nat) : Nat → D → Bool
  | _, .non => true
  | _, .bl _ => true
  | _, .int i => decide (i.natAbs ≤ b)
  | _, .str s => okStr s
  | n + 1, .tup xs => xs.all (nice b n)
  | n + 1, .lst xs => xs.all (nice b n)
  | _, _ => false
theorem nice_noFn {b : Nat} : ∀ {n : Nat} {d : D}, nice b n d = true → noFn d = true ∧ dep d ≤ n := by
  intro n
  induction n with
  | zero =>
    intro d h
    cases d <;> simp [nice] at h <;> simp [noFn, dep]
  | succ n ih =>
    have all : ∀ (xs : List D), xs.all (nice b n) = true → noFnL xs = true ∧ depL xs ≤ n := by
      intro xs
      induction xs with
      | nil => intro _; simp [noFnL, depL]
      | cons x xs ihx =>
        intro h
        rw [List.all_cons, Bool.and_eq_true] at h
        have h1 := ih h.1
        have h2 := ihx h.2
        simp only [noFnL, depL, h1.1, h2.1, Bool.and_self, true_and]
        omega
    intro d h
    cases d <;> simp only [nice] at h <;> simp [noFn, dep]
    · exact ⟨(all _ h).1, (all _ h).2⟩
    · exact ⟨(all _ h).1, (all _ h).2⟩
    · cases h
    · cases h
theorem eqD'_nice {b n : Nat} {x y : D} (hx : nice b n x = true) (hn : n ≤ 40) (hy : noFn y = true) : eqD' x y = some (.bl (eqD x y)) := by
  have h := nice_noFn hx
  unfold eqD'
  rw [if_pos]
  simp [h.1, hy]
  omega
abbrev B : Nat := 999999999999999999999999999999999999999999999999999999999999
def isInt : D → Bool
  | .int _ => true
  | _ => false
def below (n : Int) : D → Bool
  | .int i => decide (0 ≤ i) && decide (i < n)
  | _ => false
def from1 : D → Bool
  | .int i => decide (1 ≤ i)
  | _ => false
theorem e_whole {n : Nat} {d : D} (h : nice B n d = true) : g_is_whole [d] = some (.bl (isInt d)) := by
  cases d with
  | int i =>
    have h' : i.natAbs ≤ B := by cases n <;> simpa [nice] using h
    have : (if i < 0 then -i else i) < 1000000000000000000000000000000000000000000000000000000000000 := by unfold B at h'; split <;> omega
    simp [g_is_whole, q_is_whole, runQ, sRet, sSeq, sIf, sSet, sNil, fAndV, fOrV, fNotV, fAnd, fOr, fNot, fT, fIsi, fVar, isiD, f2, ltD, leB, gtD, geD, neD, intD0, intD, f1, aCons, aNil, absD, fC, powD, fChain, addD, subD, mulD, modD, fdivD, lenD, ixD, atI, ixN, fTup, fLst, fSl, sliceD, oNone, oSome, isNonD, notNonD, isNon, fIf, cutL, HT.sIx, List.getElem?_cons_zero, List.getElem?_cons_succ, isInt, this]
  | fn a => cases n <;> simp [nice] at h
  | dk a => cases n <;> simp [nice] at h
  | _ => simp [g_is_whole, q_is_whole, runQ, sRet, sSeq, sIf, sSet, sNil, fAndV, fOrV, fNotV, fAnd, fOr, fNot, fT, fIsi, fVar, isiD, f2, ltD, leB, gtD, geD, neD, intD0, intD, f1, aCons, aNil, absD, fC, powD, fChain, addD, subD, mulD, modD, fdivD, lenD, ixD, atI, ixN, fTup, fLst, fSl, sliceD, oNone, oSome, isNonD, notNonD, isNon, fIf, cutL, HT.sIx, List.getElem?_cons_zero, List.getElem?_cons_succ, isInt]
theorem e_below {n : Nat} {d : D} {k : Int} (h : nice B n d = true) : g_is_below [d, .int k] = some (.bl (below k d)) := by
  cases d <;> simp [g_is_below, q_is_below, runQ, sRet, sSeq, sIf, sSet, sNil, fAndV, fOrV, fNotV, fAnd, fOr, fNot, fT, fIsi, fVar, isiD, f2, ltD, leB, gtD, geD, neD, intD0, intD, f1, aCons, aNil, absD, fC, powD, fChain, addD, subD, mulD, modD, fdivD, lenD, ixD, atI, ixN, fTup, fLst, fSl, sliceD, oNone, oSome, isNonD, notNonD, isNon, fIf, cutL, HT.sIx, List.getElem?_cons_zero, List.getElem?_cons_succ, e_whole h, isInt, below]
  rename_i i
  by_cases h0 : 0 ≤ i <;> simp [h0]
theorem e_from1 {n : Nat} {d : D} (h : nice B n d = true) : g_is_from_one [d] = some (.bl (from1 d)) := by
  cases d <;> simp [g_is_from_one, q_is_from_one, runQ, sRet, sSeq, sIf, sSet, sNil, fAndV, fOrV, fNotV, fAnd, fOr, fNot, fT, fIsi, fVar, isiD, f2, ltD, leB, gtD, geD, neD, intD0, intD, f1, aCons, aNil, absD, fC, powD, fChain, addD, subD, mulD, modD, fdivD, lenD, ixD, atI, ixN, fTup, fLst, fSl, sliceD, oNone, oSome, isNonD, notNonD, isNon, fIf, cutL, HT.sIx, List.getElem?_cons_zero, List.getElem?_cons_succ, e_whole h, isInt, from1]
def nameB : D → Bool
  | .tup [a, b] => below 16 a && from1 b
  | _ => false
theorem nice_tup {b n : Nat} {xs : List D} (h : nice b n (.tup xs) = true) : ∃ m, n = m + 1 ∧ ∀ x ∈ xs, nice b m x = true := by
  cases n with
  | zero => simp [nice] at h
  | succ m => exact ⟨m, rfl, by simpa [nice] using h⟩
theorem e_name {n : Nat} {d : D} (h : nice B n d = true) : g_is_name [d] = some (.bl (nameB d)) := by
  match d, h with
  | .tup [], h => simp [g_is_name, q_is_name, runQ, sRet, sSeq, sIf, sSet, sNil, fAndV, fOrV, fNotV, fAnd, fOr, fNot, fT, fIsi, fVar, isiD, f2, ltD, leB, gtD, geD, neD, intD0, intD, f1, aCons, aNil, absD, fC, powD, fChain, addD, subD, mulD, modD, fdivD, lenD, ixD, atI, ixN, fTup, fLst, fSl, sliceD, oNone, oSome, isNonD, notNonD, isNon, fIf, cutL, HT.sIx, List.getElem?_cons_zero, List.getElem?_cons_succ, nameB]
  | .tup [a], h => simp [g_is_name, q_is_name, runQ, sRet, sSeq, sIf, sSet, sNil, fAndV, fOrV, fNotV, fAnd, fOr, fNot, fT, fIsi, fVar, isiD, f2, ltD, leB, gtD, geD, neD, intD0, intD, f1, aCons, aNil, absD, fC, powD, fChain, addD, subD, mulD, modD, fdivD, lenD, ixD, atI, ixN, fTup, fLst, fSl, sliceD, oNone, oSome, isNonD, notNonD, isNon, fIf, cutL, HT.sIx, List.getElem?_cons_zero, List.getElem?_cons_succ, nameB]
  | .tup [a, b], h =>
    obtain ⟨m, rfl, hm⟩ := nice_tup h
    have ha := hm a (by simp)
    have hb := hm b (by simp)
    simp [g_is_name, q_is_name, runQ, sRet, sSeq, sIf, sSet, sNil, fAndV, fOrV, fNotV, fAnd, fOr, fNot, fT, fIsi, fVar, isiD, f2, ltD, leB, gtD, geD, neD, intD0, intD, f1, aCons, aNil, absD, fC, powD, fChain, addD, subD, mulD, modD, fdivD, lenD, ixD, atI, ixN, fTup, fLst, fSl, sliceD, oNone, oSome, isNonD, notNonD, isNon, fIf, cutL, HT.sIx, List.getElem?_cons_zero, List.getElem?_cons_succ, nameB, e_below ha, e_from1 hb]
    cases below 16 a <;> simp
  | .tup (a :: b :: c :: r), h => 
    have : ¬ ((r.length : Int) + 1 + 1 + 1 = 2) := by omega
    simp [g_is_name, q_is_name, runQ, sRet, sSeq, sIf, sSet, sNil, fAndV, fOrV, fNotV, fAnd, fOr, fNot, fT, fIsi, fVar, isiD, f2, ltD, leB, gtD, geD, neD, intD0, intD, f1, aCons, aNil, absD, fC, powD, fChain, addD, subD, mulD, modD, fdivD, lenD, ixD, atI, ixN, fTup, fLst, fSl, sliceD, oNone, oSome, isNonD, notNonD, isNon, fIf, cutL, HT.sIx, List.getElem?_cons_zero, List.getElem?_cons_succ, nameB, this]
  | .non, h => simp [g_is_name, q_is_name, runQ, sRet, sSeq, sIf, sSet, sNil, fAndV, fOrV, fNotV, fAnd, fOr, fNot, fT, fIsi, fVar, isiD, f2, ltD, leB, gtD, geD, neD, intD0, intD, f1, aCons, aNil, absD, fC, powD, fChain, addD, subD, mulD, modD, fdivD, lenD, ixD, atI, ixN, fTup, fLst, fSl, sliceD, oNone, oSome, isNonD, notNonD, isNon, fIf, cutL, HT.sIx, List.getElem?_cons_zero, List.getElem?_cons_succ, nameB]
  | .bl _, h => simp [g_is_name, q_is_name, runQ, sRet, sSeq, sIf, sSet, sNil, fAndV, fOrV, fNotV, fAnd, fOr, fNot, fT, fIsi, fVar, isiD, f2, ltD, leB, gtD, geD, neD, intD0, intD, f1, aCons, aNil, absD, fC, powD, fChain, addD, subD, mulD, modD, fdivD, lenD, ixD, atI, ixN, fTup, fLst, fSl, sliceD, oNone, oSome, isNonD, notNonD, isNon, fIf, cutL, HT.sIx, List.getElem?_cons_zero, List.getElem?_cons_succ, nameB]
  | .int _, h => simp [g_is_name, q_is_name, runQ, sRet, sSeq, sIf, sSet, sNil, fAndV, fOrV, fNotV, fAnd, fOr, fNot, fT, fIsi, fVar, isiD, f2, ltD, leB, gtD, geD, neD, intD0, intD, f1, aCons, aNil, absD, fC, powD, fChain, addD, subD, mulD, modD, fdivD, lenD, ixD, atI, ixN, fTup, fLst, fSl, sliceD, oNone, oSome, isNonD, notNonD, isNon, fIf, cutL, HT.sIx, List.getElem?_cons_zero, List.getElem?_cons_succ, nameB]
  | .str _, h => simp [g_is_name, q_is_name, runQ, sRet, sSeq, sIf, sSet, sNil, fAndV, fOrV, fNotV, fAnd, fOr, fNot, fT, fIsi, fVar, isiD, f2, ltD, leB, gtD, geD, neD, intD0, intD, f1, aCons, aNil, absD, fC, powD, fChain, addD, subD, mulD, modD, fdivD, lenD, ixD, atI, ixN, fTup, fLst, fSl, sliceD, oNone, oSome, isNonD, notNonD, isNon, fIf, cutL, HT.sIx, List.getElem?_cons_zero, List.getElem?_cons_succ, nameB]
  | .lst _, h => simp [g_is_name, q_is_name, runQ, sRet, sSeq, sIf, sSet, sNil, fAndV, fOrV, fNotV, fAnd, fOr, fNot, fT, fIsi, fVar, isiD, f2, ltD, leB, gtD, geD, neD, intD0, intD, f1, aCons, aNil, absD, fC, powD, fChain, addD, subD, mulD, modD, fdivD, lenD, ixD, atI, ixN, fTup, fLst, fSl, sliceD, oNone, oSome, isNonD, notNonD, isNon, fIf, cutL, HT.sIx, List.getElem?_cons_zero, List.getElem?_cons_succ, nameB]
  | .fn _, h => cases n <;> simp [nice] at h
  | .dk _, h => cases n <;> simp [nice] at h
def signB : D → Bool
  | .tup [a, b, c] => below 16 a && from1 b && below 16 c
  | _ => false
theorem e_sign_name {n : Nat} {d : D} (h : nice B n d = true) : g_is_sign_name [d] = some (.bl (signB d)) := by
  match d, h with
  | .tup [], h => simp [g_is_sign_name, q_is_sign_name, runQ, sRet, sSeq, sIf, sSet, sNil, fAndV, fOrV, fNotV, fAnd, fOr, fNot, fT, fIsi, fVar, isiD, f2, ltD, leB, gtD, geD, neD, intD0, intD, f1, aCons, aNil, absD, fC, powD, fChain, addD, subD, mulD, modD, fdivD, lenD, ixD, atI, ixN, fTup, fLst, fSl, sliceD, oNone, oSome, isNonD, notNonD, isNon, fIf, cutL, HT.sIx, List.getElem?_cons_zero, List.getElem?_cons_succ, signB]
  | .tup [a], h => simp [g_is_sign_name, q_is_sign_name, runQ, sRet, sSeq, sIf, sSet, sNil, fAndV, fOrV, fNotV, fAnd, fOr, fNot, fT, fIsi, fVar, isiD, f2, ltD, leB, gtD, geD, neD, intD0, intD, f1, aCons, aNil, absD, fC, powD, fChain, addD, subD, mulD, modD, fdivD, lenD, ixD, atI, ixN, fTup, fLst, fSl, sliceD, oNone, oSome, isNonD, notNonD, isNon, fIf, cutL, HT.sIx, List.getElem?_cons_zero, List.getElem?_cons_succ, signB]
  | .tup [a, b], h => simp [g_is_sign_name, q_is_sign_name, runQ, sRet, sSeq, sIf, sSet, sNil, fAndV, fOrV, fNotV, fAnd, fOr, fNot, fT, fIsi, fVar, isiD, f2, ltD, leB, gtD, geD, neD, intD0, intD, f1, aCons, aNil, absD, fC, powD, fChain, addD, subD, mulD, modD, fdivD, lenD, ixD, atI, ixN, fTup, fLst, fSl, sliceD, oNone, oSome, isNonD, notNonD, isNon, fIf, cutL, HT.sIx, List.getElem?_cons_zero, List.getElem?_cons_succ, signB]
  | .tup [a, b, c], h =>
    obtain ⟨m, rfl, hm⟩ := nice_tup h
    have ha := hm a (by simp)
    have hb := hm b (by simp)
    have hc := hm c (by simp)
    have hab : nice B (m + 1) (.tup [a, b]) = true := by simp [nice, ha, hb]
    simp [g_is_sign_name, q_is_sign_name, runQ, sRet, sSeq, sIf, sSet, sNil, fAndV, fOrV, fNotV, fAnd, fOr, fNot, fT, fIsi, fVar, isiD, f2, ltD, leB, gtD, geD, neD, intD0, intD, f1, aCons, aNil, absD, fC, powD, fChain, addD, subD, mulD, modD, fdivD, lenD, ixD, atI, ixN, fTup, fLst, fSl, sliceD, oNone, oSome, isNonD, notNonD, isNon, fIf, cutL, HT.sIx, List.getElem?_cons_zero, List.getElem?_cons_succ, signB, e_name hab, e_below hc, nameB]
    cases below 16 a <;> cases from1 b <;> simp
  | .tup (a :: b :: c :: e :: r), h => 
    have : ¬ ((r.length : Int) + 1 + 1 + 1 + 1 = 3) := by omega
    simp [g_is_sign_name, q_is_sign_name, runQ, sRet, sSeq, sIf, sSet, sNil, fAndV, fOrV, fNotV, fAnd, fOr, fNot, fT, fIsi, fVar, isiD, f2, ltD, leB, gtD, geD, neD, intD0, intD, f1, aCons, aNil, absD, fC, powD, fChain, addD, subD, mulD, modD, fdivD, lenD, ixD, atI, ixN, fTup, fLst, fSl, sliceD, oNone, oSome, isNonD, notNonD, isNon, fIf, cutL, HT.sIx, List.getElem?_cons_zero, List.getElem?_cons_succ, signB, this]
  | .non, h => simp [g_is_sign_name, q_is_sign_name, runQ, sRet, sSeq, sIf, sSet, sNil, fAndV, fOrV, fNotV, fAnd, fOr, fNot, fT, fIsi, fVar, isiD, f2, ltD, leB, gtD, geD, neD, intD0, intD, f1, aCons, aNil, absD, fC, powD, fChain, addD, subD, mulD, modD, fdivD, lenD, ixD, atI, ixN, fTup, fLst, fSl, sliceD, oNone, oSome, isNonD, notNonD, isNon, fIf, cutL, HT.sIx, List.getElem?_cons_zero, List.getElem?_cons_succ, signB]
  | .bl _, h => simp [g_is_sign_name, q_is_sign_name, runQ, sRet, sSeq, sIf, sSet, sNil, fAndV, fOrV, fNotV, fAnd, fOr, fNot, fT, fIsi, fVar, isiD, f2, ltD, leB, gtD, geD, neD, intD0, intD, f1, aCons, aNil, absD, fC, powD, fChain, addD, subD, mulD, modD, fdivD, lenD, ixD, atI, ixN, fTup, fLst, fSl, sliceD, oNone, oSome, isNonD, notNonD, isNon, fIf, cutL, HT.sIx, List.getElem?_cons_zero, List.getElem?_cons_succ, signB]
  | .int _, h => simp [g_is_sign_name, q_is_sign_name, runQ, sRet, sSeq, sIf, sSet, sNil, fAndV, fOrV, fNotV, fAnd, fOr, fNot, fT, fIsi, fVar, isiD, f2, ltD, leB, gtD, geD, neD, intD0, intD, f1, aCons, aNil, absD, fC, powD, fChain, addD, subD, mulD, modD, fdivD, lenD, ixD, atI, ixN, fTup, fLst, fSl, sliceD, oNone, oSome, isNonD, notNonD, isNon, fIf, cutL, HT.sIx, List.getElem?_cons_zero, List.getElem?_cons_succ, signB]
  | .str _, h => simp [g_is_sign_name, q_is_sign_name, runQ, sRet, sSeq, sIf, sSet, sNil, fAndV, fOrV, fNotV, fAnd, fOr, fNot, fT, fIsi, fVar, isiD, f2, ltD, leB, gtD, geD, neD, intD0, intD, f1, aCons, aNil, absD, fC, powD, fChain, addD, subD, mulD, modD, fdivD, lenD, ixD, atI, ixN, fTup, fLst, fSl, sliceD, oNone, oSome, isNonD, notNonD, isNon, fIf, cutL, HT.sIx, List.getElem?_cons_zero, List.getElem?_cons_succ, signB]
  | .lst _, h => simp [g_is_sign_name, q_is_sign_name, runQ, sRet, sSeq, sIf, sSet, sNil, fAndV, fOrV, fNotV, fAnd, fOr, fNot, fT, fIsi, fVar, isiD, f2, ltD, leB, gtD, geD, neD, intD0, intD, f1, aCons, aNil, absD, fC, powD, fChain, addD, subD, mulD, modD, fdivD, lenD, ixD, atI, ixN, fTup, fLst, fSl, sliceD, oNone, oSome, isNonD, notNonD, isNon, fIf, cutL, HT.sIx, List.getElem?_cons_zero, List.getElem?_cons_succ, signB]
  | .fn _, h => cases n <;> simp [nice] at h
  | .dk _, h => cases n <;> simp [nice] at h
def rootBin : D → Bool
  | .str s => s == "root" || s == "bin"
  | _ => false
theorem e_item {n : Nat} {d : D} (hn : n ≤ 40) (h : nice B n d = true) : g_is_item [d] = some (.bl (nameB d || rootBin d)) := by
  have e : ∀ x, eqD' d (.str x) = some (.bl (eqD d (.str x))) := fun x => eqD'_nice h hn rfl
  simp [g_is_item, q_is_item, runQ, sRet, sSeq, sIf, sSet, sNil, fAndV, fOrV, fNotV, fAnd, fOr, fNot, fT, fIsi, fVar, isiD, f2, ltD, leB, gtD, geD, neD, intD0, intD, f1, aCons, aNil, absD, fC, powD, fChain, addD, subD, mulD, modD, fdivD, lenD, ixD, atI, ixN, fTup, fLst, fSl, sliceD, oNone, oSome, isNonD, notNonD, isNon, fIf, cutL, HT.sIx, List.getElem?_cons_zero, List.getElem?_cons_succ, e_name h, e]
  cases nameB d <;> simp
  cases d <;> simp [eqD, rootBin]
  rename_i s
  by_cases hs : s = "root" <;> simp [hs]
theorem e_sibling {n : Nat} {d : D} (h : nice B n d = true) : g_is_sibling [d] = some (.bl (isNon d || nameB d)) := by
  simp [g_is_sibling, q_is_sibling, runQ, sRet, sSeq, sIf, sSet, sNil, fAndV, fOrV, fNotV, fAnd, fOr, fNot, fT, fIsi, fVar, isiD, f2, ltD, leB, gtD, geD, neD, intD0, intD, f1, aCons, aNil, absD, fC, powD, fChain, addD, subD, mulD, modD, fdivD, lenD, ixD, atI, ixN, fTup, fLst, fSl, sliceD, oNone, oSome, isNonD, notNonD, isNon, fIf, cutL, HT.sIx, List.getElem?_cons_zero, List.getElem?_cons_succ, e_name h]
  cases d <;> simp
theorem e_behind {n : Nat} {d : D} (h : nice B n d = true) : g_is_behind [d] = some (.bl (isNon d || signB d)) := by
  simp [g_is_behind, q_is_behind, runQ, sRet, sSeq, sIf, sSet, sNil, fAndV, fOrV, fNotV, fAnd, fOr, fNot, fT, fIsi, fVar, isiD, f2, ltD, leB, gtD, geD, neD, intD0, intD, f1, aCons, aNil, absD, fC, powD, fChain, addD, subD, mulD, modD, fdivD, lenD, ixD, atI, ixN, fTup, fLst, fSl, sliceD, oNone, oSome, isNonD, notNonD, isNon, fIf, cutL, HT.sIx, List.getElem?_cons_zero, List.getElem?_cons_succ, e_sign_name h]
  cases d <;> simp
theorem e_place {n : Nat} {d : D} (h : nice B n d = true) : g_is_place [d] = some (.bl (below 4 d)) := by
  simp [g_is_place, q_is_place, runQ, sRet, sSeq, sIf, sSet, sNil, fAndV, fOrV, fNotV, fAnd, fOr, fNot, fT, fIsi, fVar, isiD, f2, ltD, leB, gtD, geD, neD, intD0, intD, f1, aCons, aNil, absD, fC, powD, fChain, addD, subD, mulD, modD, fdivD, lenD, ixD, atI, ixN, fTup, fLst, fSl, sliceD, oNone, oSome, isNonD, notNonD, isNon, fIf, cutL, HT.sIx, List.getElem?_cons_zero, List.getElem?_cons_succ, e_below h]
end K02
set_option maxRecDepth 100000
set_option maxHeartbeats 1000000
namespace K02
open PySem L2 DL
theorem le_one (a c : Nat) : strLe ⟨#[a]⟩ ⟨#[c]⟩ = decide (a ≤ c) := by
  unfold strLe
  simp only [List.cons_lt_cons_iff, List.not_lt_nil, and_false, or_false]
  by_cases h : c < a
  · simp [h]
  · simp [h]; omega
theorem ofs_blank : (" " : Str) = ⟨#[32]⟩ := by decide +kernel
theorem ofs_tilde : ("~" : Str) = ⟨#[126]⟩ := by decide +kernel
theorem e_sign (c : Nat) : g_is_sign [.str ⟨#[c]⟩] = some (.bl (okSign c)) := by
  simp [g_is_sign, q_is_sign, runQ, sRet, sSeq, sIf, sSet, sNil, fAndV, fOrV, fNotV, fAnd, fOr, fNot, fT, fIsi, fVar, isiD, f2, ltD, leB, gtD, geD, neD, intD0, intD, f1, aCons, aNil, absD, fC, powD, fChain, addD, subD, mulD, modD, fdivD, lenD, ixD, atI, ixN, fTup, fLst, fSl, sliceD, oNone, oSome, isNonD, notNonD, isNon, fIf, cutL, HT.sIx, List.getElem?_cons_zero, List.getElem?_cons_succ, ordD, ofs_blank, ofs_tilde, le_one, Str.length, okSign]
  by_cases h1 : 32 ≤ c <;> by_cases h2 : c ≤ 126 <;> simp [h1, h2]
  rw [Bool.eq_iff_iff]
  simp
  omega
def textB : D → Bool
  | .str s => decide (1 ≤ s.length) && decide (s.length ≤ 16)
  | _ => false
theorem comp_signs (ρ : DEnv) (hρ : ρ = [none]) : ∀ (cs : List Nat), cs.all okSign = true →
    compF (bName 0) (fun _ => some true) (f1 g_is_sign (aCons (fVar 0) aNil)) ρ (cs.map fun c => .str ⟨#[c]⟩) = some (cs.map fun _ => .bl true)
  | [], _ => rfl
  | c :: cs, h => by
    rw [List.all_cons, Bool.and_eq_true] at h
    have ih := comp_signs ρ hρ cs h.2
    subst hρ
    simp only [List.map_cons, compF, ih]
    simp [bName, f1, aCons, fVar, aNil, e_sign, h.1]
theorem bools_true : ∀ (cs : List Nat), bools (cs.map fun _ => D.bl true) = some (cs.map fun _ => true)
  | [] => rfl
  | c :: cs => by simp only [List.map_cons, bools, bools_true cs, Option.map_some]
theorem e_text {n : Nat} {d : D} (h : nice B n d = true) : g_is_text [d] = some (.bl (textB d)) := by
  cases d with
  | str s =>
    have h' : okStr s = true := by cases n <;> simpa [nice] using h
    unfold okStr at h'
    rw [Bool.and_eq_true, decide_eq_true_eq] at h'
    have hl : s.length ≤ big := by unfold big; omega
    have hc := comp_signs [none] rfl s.cps.toList h'.2
    have hall : (List.map (fun _ => true) s.cps.toList).all id = true := by simp
    by_cases h1 : 1 ≤ (s.length : Int)
    · by_cases h2 : (s.length : Int) ≤ 16
      · have e1 : 1 ≤ s.length := by omega
        have e2 : s.length ≤ 16 := by omega
        have hz : s.cps.toList.length ≤ big := by simpa [Str.length] using hl
        have hcomp : fComp 1 [] (iStr (fVar 0)) (bName 0) (fun _ => some true) (f1 g_is_sign (aCons (fVar 0) aNil)) [some (.str s)] = some (.lst (s.cps.toList.map fun _ => .bl true)) := by
          show (if (s.cps.toList.map fun c => D.str ⟨#[c]⟩).length ≤ big then Option.map D.lst (compF (bName 0) (fun _ => some true) (f1 g_is_sign (aCons (fVar 0) aNil)) [none] (s.cps.toList.map fun c => .str ⟨#[c]⟩)) else none) = _
          rw [List.length_map, if_pos hz, hc]; rfl
        have hall2 : allD [.lst (s.cps.toList.map fun _ => .bl true)] = some (.bl true) := by
          simp only [allD, bools_true, Option.map_some, hall]
        simp [g_is_text, q_is_text, runQ, sRet, sSeq, sIf, sSet, sNil, fAndV, fOrV, fNotV, fAnd, fOr, fNot, fT, fIsi, fVar, isiD, f2, ltD, leB, gtD, geD, neD, intD0, intD, f1, aCons, aNil, absD, fC, powD, fChain, addD, subD, mulD, modD, fdivD, lenD, ixD, atI, ixN, fTup, fLst, fSl, sliceD, oNone, oSome, isNonD, notNonD, isNon, fIf, cutL, HT.sIx, List.getElem?_cons_zero, List.getElem?_cons_succ, hcomp, hl, h1, h2, e1, e2, hall2, textB]
      · have e2 : ¬ s.length ≤ 16 := by omega
        simp [g_is_text, q_is_text, runQ, sRet, sSeq, sIf, sSet, sNil, fAndV, fOrV, fNotV, fAnd, fOr, fNot, fT, fIsi, fVar, isiD, f2, ltD, leB, gtD, geD, neD, intD0, intD, f1, aCons, aNil, absD, fC, powD, fChain, addD, subD, mulD, modD, fdivD, lenD, ixD, atI, ixN, fTup, fLst, fSl, sliceD, oNone, oSome, isNonD, notNonD, isNon, fIf, cutL, HT.sIx, List.getElem?_cons_zero, List.getElem?_cons_succ, textB, hl, h1, h2, e2]
    · have e1 : s.length = 0 := by omega
      simp [g_is_text, q_is_text, runQ, sRet, sSeq, sIf, sSet, sNil, fAndV, fOrV, fNotV, fAnd, fOr, fNot, fT, fIsi, fVar, isiD, f2, ltD, leB, gtD, geD, neD, intD0, intD, f1, aCons, aNil, absD, fC, powD, fChain, addD, subD, mulD, modD, fdivD, lenD, ixD, atI, ixN, fTup, fLst, fSl, sliceD, oNone, oSome, isNonD, notNonD, isNon, fIf, cutL, HT.sIx, List.getElem?_cons_zero, List.getElem?_cons_succ, textB, hl, e1]
  | fn a => cases n <;> simp [nice] at h
  | dk a => cases n <;> simp [nice] at h
  | _ => simp [g_is_text, q_is_text, runQ, sRet, sSeq, sIf, sSet, sNil, fAndV, fOrV, fNotV, fAnd, fOr, fNot, fT, fIsi, fVar, isiD, f2, ltD, leB, gtD, geD, neD, intD0, intD, f1, aCons, aNil, absD, fC, powD, fChain, addD, subD, mulD, modD, fdivD, lenD, ixD, atI, ixN, fTup, fLst, fSl, sliceD, oNone, oSome, isNonD, notNonD, isNon, fIf, cutL, HT.sIx, List.getElem?_cons_zero, List.getElem?_cons_succ, textB]
end K02
set_option maxRecDepth 100000
set_option maxHeartbeats 1000000
namespace K02
open PySem L2 DL
variable {t : Adr}
theorem ft_all (nd : t.nd) : ftab t t.is_item = some g_is_item ∧ ftab t t.is_sibling = some g_is_sibling ∧ ftab t t.is_behind = some g_is_behind ∧ ftab t t.is_text = some g_is_text ∧ ftab t t.is_sign_name = some g_is_sign_name ∧
    ftab t t.is_from_one = some g_is_from_one ∧ ftab t t.is_place = some g_is_place ∧ ftab t t.is_whole = some g_is_whole ∧ ftab t t.is_name = some g_is_name := by
  unfold Adr.nd at nd
  simp only [List.nodup_cons, List.mem_cons, List.not_mem_nil, or_false, not_or] at nd
  unfold ftab
  refine ⟨?_, ?_, ?_, ?_, ?_, ?_, ?_, ?_, ?_⟩ <;> grind
theorem comp_checks (ρ : DEnv) (hρ : ρ = [none, none]) : ∀ (cs : List (Addr × D × Bool)), (∀ c ∈ cs, ∃ g, ftab t c.1 = some g ∧ g [c.2.1] = some (.bl c.2.2)) →
    compF (bPair 0 1) (fun _ => some true) (fCallV (ftab t) 0 (aCons (fVar 1) aNil)) ρ (zipD (cs.map fun c => .fn c.1) (cs.map (·.2.1))) = some (cs.map fun c => .bl c.2.2)
  | [], _ => rfl
  | c :: cs, h => by
    have ih := comp_checks ρ hρ cs fun x hx => h x (List.mem_cons_of_mem _ hx)
    obtain ⟨g, h1, h2⟩ := h c List.mem_cons_self
    subst hρ
    simp only [List.map_cons, zipD, compF, ih]
    simp [bPair, bName, fCallV, aCons, fVar, aNil, h1, h2]
theorem bools_map : ∀ (cs : List (Addr × D × Bool)), bools (cs.map fun c => D.bl c.2.2) = some (cs.map fun c => c.2.2)
  | [] => rfl
  | c :: cs => by simp only [List.map_cons, bools, bools_map cs, Option.map_some]
theorem zip_len : ∀ (cs : List (Addr × D × Bool)), (zipD (cs.map fun c => .fn c.1) (cs.map (·.2.1))).length = cs.length
  | [] => rfl
  | c :: cs => by simp only [List.map_cons, zipD, List.length_cons, zip_len cs]
theorem e_parts (cs : List (Addr × D × Bool)) (h : ∀ c ∈ cs, ∃ g, ftab t c.1 = some g ∧ g [c.2.1] = some (.bl c.2.2)) (hl : cs.length ≤ 1000) :
    g_are_parts t [.tup (cs.map (·.2.1)), .tup (cs.map fun c => .fn c.1)] = some (.bl (cs.all (·.2.2))) := by
  have hc := comp_checks [none, none] rfl cs h
  have hz : cs.length ≤ big := by unfold big; omega
  have hcomp : fComp 2 [] (iZip (fVar 1) (fVar 0)) (bPair 0 1) (fun _ => some true) (fCallV (ftab t) 0 (aCons (fVar 1) aNil)) [some (.tup (cs.map (·.2.1))), some (.tup (cs.map fun c => .fn c.1))] = some (.lst (cs.map fun c => .bl c.2.2)) := by
    show (if (zipD (cs.map fun c => .fn c.1) (cs.map (·.2.1))).length ≤ big then Option.map D.lst (compF (bPair 0 1) (fun _ => some true) (fCallV (ftab t) 0 (aCons (fVar 1) aNil)) [none, none] (zipD (cs.map fun c => .fn c.1) (cs.map (·.2.1)))) else none) = _
    rw [zip_len, if_pos hz, hc]; rfl
  have hall : allD [.lst (cs.map fun c => .bl c.2.2)] = some (.bl (cs.all (·.2.2))) := by
    simp only [allD, bools_map, Option.map_some, List.all_map]
    rfl
  simp [g_are_parts, q_are_parts, runQ, sRet, sSeq, sIf, sSet, sNil, fAndV, fOrV, fNotV, fAnd, fOr, fNot, fT, fIsi, fVar, isiD, f2, ltD, leB, gtD, geD, neD, intD0, intD, f1, aCons, aNil, absD, fC, powD, fChain, addD, subD, mulD, modD, fdivD, lenD, ixD, atI, ixN, fTup, fLst, fSl, sliceD, oNone, oSome, isNonD, notNonD, isNon, fIf, cutL, HT.sIx, List.getElem?_cons_zero, List.getElem?_cons_succ, hcomp, hall]
theorem e_parts_ne {ps fs : List D} (h : ps.length ≠ fs.length) : g_are_parts t [.tup ps, .tup fs] = some (.bl false) := by
  have : ¬ ((ps.length : Int) = fs.length) := by omega
  simp [g_are_parts, q_are_parts, runQ, sRet, sSeq, sIf, sSet, sNil, fAndV, fOrV, fNotV, fAnd, fOr, fNot, fT, fIsi, fVar, isiD, f2, ltD, leB, gtD, geD, neD, intD0, intD, f1, aCons, aNil, absD, fC, powD, fChain, addD, subD, mulD, modD, fdivD, lenD, ixD, atI, ixN, fTup, fLst, fSl, sliceD, oNone, oSome, isNonD, notNonD, isNon, fIf, cutL, HT.sIx, List.getElem?_cons_zero, List.getElem?_cons_succ, this]
theorem cut_tail (x : D) (r : List D) : sliceD (.tup (x :: r)) (some 1) none = some (.tup r) := by
  have h1 : HT.sIx (r.length + 1) 0 (some 1) = 1 := by
    simp [HT.sIx]
  have h2 : HT.sIx (r.length + 1) (r.length + 1) none = r.length + 1 := by simp [HT.sIx]
  simp [sliceD, cutL, h1, h2]
end K02
set_option maxRecDepth 100000
set_option maxHeartbeats 1000000
namespace K02
open PySem L2 DL
variable {t : Adr}
abbrev itemB (d : D) : Bool := nameB d || rootBin d
abbrev sibB (d : D) : Bool := isNon d || nameB d
abbrev behB (d : D) : Bool := isNon d || signB d
def within : D → D → Bool
  | .tup [_, _, .int c], .int m => decide (c + m ≤ 16)
  | _, _ => false
def putB : List D → Bool
  | [a, b] => itemB a && sibB b
  | _ => false
def moveB : List D → Bool
  | [a, b, c] => itemB a && itemB b && sibB c
  | _ => false
def dropB : List D → Bool
  | [a] => itemB a
  | _ => false
def writeB : List D → Bool
  | [a, b, c] => itemB a && behB b && textB c
  | _ => false
def cutB : List D → Bool
  | [a, b, c] => itemB a && signB b && from1 c && within b c
  | _ => false
def setB : List D → Bool
  | [a, b, c] => itemB a && below 4 b && isInt c
  | _ => false
def undoB : List D → Bool
  | [a] => nameB a
  | _ => false
def restB (k : Str) (r : List D) : Bool :=
  if k = "put" then putB r else if k = "move" then moveB r else if k = "drop" then dropB r else if k = "write" then writeB r else if k = "cut" then cutB r
  else if k = "set" then setB r else if k = "undo" then undoB r else if k = "redo" then undoB r else false
def deedB : D → Bool
  | .tup (.str k :: r) => restB k r
  | _ => false
theorem deed_pre {n : Nat} {k : Str} {r : List D} {fs : List D} (hk : (tab_PARTS t).lookup k = some (.tup fs)) {b : Bool} (hp : g_are_parts t [.tup r, .tup fs] = some (.bl b)) (hb : b = false ∨ k ≠ "cut") :
    g_is_deed t [.tup (.str k :: r)] = some (.bl b) := by
  have h0 : ¬ ((r.length : Int) + 1 = 0) := by omega
  have he : eqD' (.int ((r.length : Int) + 1)) (.int 0) = some (.bl false) := by simp [eqD', noFn, dep, eqD, h0]
  have hs : sliceD (.tup (.str k :: r)) (some 1) none = some (.tup r) := cut_tail _ _
  cases b with
  | false => simp [g_is_deed, q_is_deed, runQ, sRet, sSeq, sIf, sSet, sNil, fAndV, fOrV, fNotV, fAnd, fOr, fNot, fT, fIsi, fVar, isiD, f2, ltD, leB, gtD, geD, neD, intD0, intD, f1, aCons, aNil, absD, fC, powD, fChain, addD, subD, mulD, modD, fdivD, lenD, ixD, atI, ixN, fTup, fLst, fSl, sliceD, oNone, oSome, isNonD, notNonD, isNon, fIf, cutL, HT.sIx, List.getElem?_cons_zero, List.getElem?_cons_succ, he, gInD, hk, gGetD, hp, cut_tail]
  | true =>
    have hk2 : k ≠ "cut" := by simpa using hb
    simp [g_is_deed, q_is_deed, runQ, sRet, sSeq, sIf, sSet, sNil, fAndV, fOrV, fNotV, fAnd, fOr, fNot, fT, fIsi, fVar, isiD, f2, ltD, leB, gtD, geD, neD, intD0, intD, f1, aCons, aNil, absD, fC, powD, fChain, addD, subD, mulD, modD, fdivD, lenD, ixD, atI, ixN, fTup, fLst, fSl, sliceD, oNone, oSome, isNonD, notNonD, isNon, fIf, cutL, HT.sIx, List.getElem?_cons_zero, List.getElem?_cons_succ, he, gInD, hk, gGetD, hp, cut_tail, hk2]
theorem deed_cut {fs : List D} {a x y : D} {z m : Int} (hk : (tab_PARTS t).lookup ("cut" : Str) = some (.tup fs)) (hp : g_are_parts t [.tup [a, .tup [x, y, .int z], .int m], .tup fs] = some (.bl true)) :
    g_is_deed t [.tup [.str "cut", a, .tup [x, y, .int z], .int m]] = some (.bl (decide (z + m ≤ 16))) := by
  have he : eqD' (.int 4) (.int 0) = some (.bl false) := by simp [eqD', noFn, dep, eqD]
  simp [g_is_deed, q_is_deed, runQ, sRet, sSeq, sIf, sSet, sNil, fAndV, fOrV, fNotV, fAnd, fOr, fNot, fT, fIsi, fVar, isiD, f2, ltD, leB, gtD, geD, neD, intD0, intD, f1, aCons, aNil, absD, fC, powD, fChain, addD, subD, mulD, modD, fdivD, lenD, ixD, atI, ixN, fTup, fLst, fSl, sliceD, oNone, oSome, isNonD, notNonD, isNon, fIf, cutL, HT.sIx, List.getElem?_cons_zero, List.getElem?_cons_succ, he, gInD, hk, gGetD, hp, cut_tail]
theorem e_deed {n : Nat} {d : D} (nd : t.nd) (hn : n ≤ 40) (h : nice B n d = true) : g_is_deed t [d] = some (.bl (deedB d)) := by
  obtain ⟨f1', f2', f3', f4', f5', f6', f7', f8', f9'⟩ := ft_all nd
  match d, h with
  | .non, h => simp [g_is_deed, q_is_deed, runQ, sRet, sSeq, sIf, sSet, sNil, fAndV, fOrV, fNotV, fAnd, fOr, fNot, fT, fIsi, fVar, isiD, f2, ltD, leB, gtD, geD, neD, intD0, intD, f1, aCons, aNil, absD, fC, powD, fChain, addD, subD, mulD, modD, fdivD, lenD, ixD, atI, ixN, fTup, fLst, fSl, sliceD, oNone, oSome, isNonD, notNonD, isNon, fIf, cutL, HT.sIx, List.getElem?_cons_zero, List.getElem?_cons_succ, deedB]
  | .bl _, h => simp [g_is_deed, q_is_deed, runQ, sRet, sSeq, sIf, sSet, sNil, fAndV, fOrV, fNotV, fAnd, fOr, fNot, fT, fIsi, fVar, isiD, f2, ltD, leB, gtD, geD, neD, intD0, intD, f1, aCons, aNil, absD, fC, powD, fChain, addD, subD, mulD, modD, fdivD, lenD, ixD, atI, ixN, fTup, fLst, fSl, sliceD, oNone, oSome, isNonD, notNonD, isNon, fIf, cutL, HT.sIx, List.getElem?_cons_zero, List.getElem?_cons_succ, deedB]
  | .int _, h => simp [g_is_deed, q_is_deed, runQ, sRet, sSeq, sIf, sSet, sNil, fAndV, fOrV, fNotV, fAnd, fOr, fNot, fT, fIsi, fVar, isiD, f2, ltD, leB, gtD, geD, neD, intD0, intD, f1, aCons, aNil, absD, fC, powD, fChain, addD, subD, mulD, modD, fdivD, lenD, ixD, atI, ixN, fTup, fLst, fSl, sliceD, oNone, oSome, isNonD, notNonD, isNon, fIf, cutL, HT.sIx, List.getElem?_cons_zero, List.getElem?_cons_succ, deedB]
  | .str _, h => simp [g_is_deed, q_is_deed, runQ, sRet, sSeq, sIf, sSet, sNil, fAndV, fOrV, fNotV, fAnd, fOr, fNot, fT, fIsi, fVar, isiD, f2, ltD, leB, gtD, geD, neD, intD0, intD, f1, aCons, aNil, absD, fC, powD, fChain, addD, subD, mulD, modD, fdivD, lenD, ixD, atI, ixN, fTup, fLst, fSl, sliceD, oNone, oSome, isNonD, notNonD, isNon, fIf, cutL, HT.sIx, List.getElem?_cons_zero, List.getElem?_cons_succ, deedB]
  | .lst _, h => simp [g_is_deed, q_is_deed, runQ, sRet, sSeq, sIf, sSet, sNil, fAndV, fOrV, fNotV, fAnd, fOr, fNot, fT, fIsi, fVar, isiD, f2, ltD, leB, gtD, geD, neD, intD0, intD, f1, aCons, aNil, absD, fC, powD, fChain, addD, subD, mulD, modD, fdivD, lenD, ixD, atI, ixN, fTup, fLst, fSl, sliceD, oNone, oSome, isNonD, notNonD, isNon, fIf, cutL, HT.sIx, List.getElem?_cons_zero, List.getElem?_cons_succ, deedB]
  | .fn _, h => cases n <;> simp [nice] at h
  | .dk _, h => cases n <;> simp [nice] at h
  | .tup [], h => 
    have he : eqD' (.int 0) (.int 0) = some (.bl true) := by simp [eqD', noFn, dep, eqD]
    simp [g_is_deed, q_is_deed, runQ, sRet, sSeq, sIf, sSet, sNil, fAndV, fOrV, fNotV, fAnd, fOr, fNot, fT, fIsi, fVar, isiD, f2, ltD, leB, gtD, geD, neD, intD0, intD, f1, aCons, aNil, absD, fC, powD, fChain, addD, subD, mulD, modD, fdivD, lenD, ixD, atI, ixN, fTup, fLst, fSl, sliceD, oNone, oSome, isNonD, notNonD, isNon, fIf, cutL, HT.sIx, List.getElem?_cons_zero, List.getElem?_cons_succ, deedB, he]
  | .tup (x :: r), h =>
    obtain ⟨m, rfl, hm⟩ := nice_tup h
    have hr : ∀ y ∈ r, nice B m y = true := fun y hy => hm y (List.mem_cons_of_mem _ hy)
    have hx := hm x List.mem_cons_self
    have h0 : ¬ ((r.length : Int) + 1 = 0) := by omega
    have he : eqD' (.int ((r.length : Int) + 1)) (.int 0) = some (.bl false) := by simp [eqD', noFn, dep, eqD, h0]
    have hm40 : m ≤ 40 := by omega
    match x, hx with
    | .non, _ => simp [g_is_deed, q_is_deed, runQ, sRet, sSeq, sIf, sSet, sNil, fAndV, fOrV, fNotV, fAnd, fOr, fNot, fT, fIsi, fVar, isiD, f2, ltD, leB, gtD, geD, neD, intD0, intD, f1, aCons, aNil, absD, fC, powD, fChain, addD, subD, mulD, modD, fdivD, lenD, ixD, atI, ixN, fTup, fLst, fSl, sliceD, oNone, oSome, isNonD, notNonD, isNon, fIf, cutL, HT.sIx, List.getElem?_cons_zero, List.getElem?_cons_succ, deedB, he]
    | .bl _, _ => simp [g_is_deed, q_is_deed, runQ, sRet, sSeq, sIf, sSet, sNil, fAndV, fOrV, fNotV, fAnd, fOr, fNot, fT, fIsi, fVar, isiD, f2, ltD, leB, gtD, geD, neD, intD0, intD, f1, aCons, aNil, absD, fC, powD, fChain, addD, subD, mulD, modD, fdivD, lenD, ixD, atI, ixN, fTup, fLst, fSl, sliceD, oNone, oSome, isNonD, notNonD, isNon, fIf, cutL, HT.sIx, List.getElem?_cons_zero, List.getElem?_cons_succ, deedB, he]
    | .int _, _ => simp [g_is_deed, q_is_deed, runQ, sRet, sSeq, sIf, sSet, sNil, fAndV, fOrV, fNotV, fAnd, fOr, fNot, fT, fIsi, fVar, isiD, f2, ltD, leB, gtD, geD, neD, intD0, intD, f1, aCons, aNil, absD, fC, powD, fChain, addD, subD, mulD, modD, fdivD, lenD, ixD, atI, ixN, fTup, fLst, fSl, sliceD, oNone, oSome, isNonD, notNonD, isNon, fIf, cutL, HT.sIx, List.getElem?_cons_zero, List.getElem?_cons_succ, deedB, he]
    | .tup _, _ => simp [g_is_deed, q_is_deed, runQ, sRet, sSeq, sIf, sSet, sNil, fAndV, fOrV, fNotV, fAnd, fOr, fNot, fT, fIsi, fVar, isiD, f2, ltD, leB, gtD, geD, neD, intD0, intD, f1, aCons, aNil, absD, fC, powD, fChain, addD, subD, mulD, modD, fdivD, lenD, ixD, atI, ixN, fTup, fLst, fSl, sliceD, oNone, oSome, isNonD, notNonD, isNon, fIf, cutL, HT.sIx, List.getElem?_cons_zero, List.getElem?_cons_succ, deedB, he]
    | .lst _, _ => simp [g_is_deed, q_is_deed, runQ, sRet, sSeq, sIf, sSet, sNil, fAndV, fOrV, fNotV, fAnd, fOr, fNot, fT, fIsi, fVar, isiD, f2, ltD, leB, gtD, geD, neD, intD0, intD, f1, aCons, aNil, absD, fC, powD, fChain, addD, subD, mulD, modD, fdivD, lenD, ixD, atI, ixN, fTup, fLst, fSl, sliceD, oNone, oSome, isNonD, notNonD, isNon, fIf, cutL, HT.sIx, List.getElem?_cons_zero, List.getElem?_cons_succ, deedB, he]
    | .fn _, h => cases m <;> simp [nice] at h
    | .dk _, h => cases m <;> simp [nice] at h
    | .str k, _ =>
      show _ = some (D.bl (restB k r))
      unfold restB
      split
      · rename_i hk; subst hk
        match r, hr with
        | [a, b], hr =>
          have hp := e_parts (t := t) [(t.is_item, a, itemB a), (t.is_sibling, b, sibB b)] (by
            intro c hc; simp at hc; rcases hc with rfl | rfl
            · exact ⟨_, f1', e_item hm40 (hr _ (by simp))⟩
            · exact ⟨_, f2', e_sibling (hr _ (by simp))⟩) (by simp)
          have := deed_pre (n := 0) (k := "put") (fs := [.fn t.is_item, .fn t.is_sibling]) rfl hp (.inr (by decide +kernel))
          simpa [putB, Bool.and_assoc] using this
        | [], hr => exact deed_pre (n := 0) (k := "put") (fs := [.fn t.is_item, .fn t.is_sibling]) rfl (e_parts_ne (by simp)) (.inl rfl)
        | [a], hr => exact deed_pre (n := 0) (k := "put") (fs := [.fn t.is_item, .fn t.is_sibling]) rfl (e_parts_ne (by simp)) (.inl rfl)
        | a :: b :: c :: r, hr => exact deed_pre (n := 0) (k := "put") (fs := [.fn t.is_item, .fn t.is_sibling]) rfl (e_parts_ne (by simp)) (.inl rfl)
      split
      · rename_i hk; subst hk
        match r, hr with
        | [a, b, c], hr =>
          have hp := e_parts (t := t) [(t.is_item, a, itemB a), (t.is_item, b, itemB b), (t.is_sibling, c, sibB c)] (by
            intro c hc; simp at hc; rcases hc with rfl | rfl | rfl
            · exact ⟨_, f1', e_item hm40 (hr _ (by simp))⟩
            · exact ⟨_, f1', e_item hm40 (hr _ (by simp))⟩
            · exact ⟨_, f2', e_sibling (hr _ (by simp))⟩) (by simp)
          have := deed_pre (n := 0) (k := "move") (fs := [.fn t.is_item, .fn t.is_item, .fn t.is_sibling]) rfl hp (.inr (by decide +kernel))
          simpa [moveB, Bool.and_assoc] using this
        | [], hr => exact deed_pre (n := 0) (k := "move") (fs := [.fn t.is_item, .fn t.is_item, .fn t.is_sibling]) rfl (e_parts_ne (by simp)) (.inl rfl)
        | [a], hr => exact deed_pre (n := 0) (k := "move") (fs := [.fn t.is_item, .fn t.is_item, .fn t.is_sibling]) rfl (e_parts_ne (by simp)) (.inl rfl)
        | [a, b], hr => exact deed_pre (n := 0) (k := "move") (fs := [.fn t.is_item, .fn t.is_item, .fn t.is_sibling]) rfl (e_parts_ne (by simp)) (.inl rfl)
        | a :: b :: c :: d :: r, hr => exact deed_pre (n := 0) (k := "move") (fs := [.fn t.is_item, .fn t.is_item, .fn t.is_sibling]) rfl (e_parts_ne (by simp)) (.inl rfl)
      split
      · rename_i hk; subst hk
        match r, hr with
        | [a], hr =>
          have hp := e_parts (t := t) [(t.is_item, a, itemB a)] (by
            intro c hc; simp at hc; rcases hc with rfl
            · exact ⟨_, f1', e_item hm40 (hr _ (by simp))⟩) (by simp)
          have := deed_pre (n := 0) (k := "drop") (fs := [.fn t.is_item]) rfl hp (.inr (by decide +kernel))
          simpa [dropB, Bool.and_assoc] using this
        | [], hr => exact deed_pre (n := 0) (k := "drop") (fs := [.fn t.is_item]) rfl (e_parts_ne (by simp)) (.inl rfl)
        | a :: b :: r, hr => exact deed_pre (n := 0) (k := "drop") (fs := [.fn t.is_item]) rfl (e_parts_ne (by simp)) (.inl rfl)
      split
      · rename_i hk; subst hk
        match r, hr with
        | [a, b, c], hr =>
          have hp := e_parts (t := t) [(t.is_item, a, itemB a), (t.is_behind, b, behB b), (t.is_text, c, textB c)] (by
            intro c hc; simp at hc; rcases hc with rfl | rfl | rfl
            · exact ⟨_, f1', e_item hm40 (hr _ (by simp))⟩
            · exact ⟨_, f3', e_behind (hr _ (by simp))⟩
            · exact ⟨_, f4', e_text (hr _ (by simp))⟩) (by simp)
          have := deed_pre (n := 0) (k := "write") (fs := [.fn t.is_item, .fn t.is_behind, .fn t.is_text]) rfl hp (.inr (by decide +kernel))
          simpa [writeB, Bool.and_assoc] using this
        | [], hr => exact deed_pre (n := 0) (k := "write") (fs := [.fn t.is_item, .fn t.is_behind, .fn t.is_text]) rfl (e_parts_ne (by simp)) (.inl rfl)
        | [a], hr => exact deed_pre (n := 0) (k := "write") (fs := [.fn t.is_item, .fn t.is_behind, .fn t.is_text]) rfl (e_parts_ne (by simp)) (.inl rfl)
        | [a, b], hr => exact deed_pre (n := 0) (k := "write") (fs := [.fn t.is_item, .fn t.is_behind, .fn t.is_text]) rfl (e_parts_ne (by simp)) (.inl rfl)
        | a :: b :: c :: d :: r, hr => exact deed_pre (n := 0) (k := "write") (fs := [.fn t.is_item, .fn t.is_behind, .fn t.is_text]) rfl (e_parts_ne (by simp)) (.inl rfl)
      split
      · rename_i hk; subst hk
        match r, hr with
        | [a, b, c], hr =>
          have hp := e_parts (t := t) [(t.is_item, a, itemB a), (t.is_sign_name, b, signB b), (t.is_from_one, c, from1 c)] (by
            intro c hc; simp at hc; rcases hc with rfl | rfl | rfl
            · exact ⟨_, f1', e_item hm40 (hr _ (by simp))⟩
            · exact ⟨_, f5', e_sign_name (hr _ (by simp))⟩
            · exact ⟨_, f6', e_from1 (hr _ (by simp))⟩) (by simp)
          cases hq : (itemB a && signB b && from1 c) with
          | false =>
            have hp' : g_are_parts t [.tup [a, b, c], .tup [.fn t.is_item, .fn t.is_sign_name, .fn t.is_from_one]] = some (.bl false) := by rw [← hq]; simpa [Bool.and_assoc] using hp
            have := deed_pre (n := 0) (k := "cut") (fs := [.fn t.is_item, .fn t.is_sign_name, .fn t.is_from_one]) rfl hp' (.inl rfl)
            rw [this]
            show _ = some (D.bl (itemB a && signB b && from1 c && within b c))
            rw [hq]; rfl
          | true =>
            have hp' : g_are_parts t [.tup [a, b, c], .tup [.fn t.is_item, .fn t.is_sign_name, .fn t.is_from_one]] = some (.bl true) := by rw [← hq]; simpa [Bool.and_assoc] using hp
            simp only [Bool.and_eq_true] at hq
            obtain ⟨⟨q1, q2⟩, q3⟩ := hq
            obtain ⟨x, y, z, rfl, qz⟩ : ∃ x y z, b = .tup [x, y, z] ∧ below 16 z = true := by
              unfold signB at q2
              split at q2
              · simp at q2; exact ⟨_, _, _, rfl, q2.2⟩
              · cases q2
            obtain ⟨z, rfl⟩ : ∃ i, z = .int i := by cases z <;> simp [below] at qz; exact ⟨_, rfl⟩
            obtain ⟨m', rfl⟩ : ∃ i, c = .int i := by cases c <;> simp [from1] at q3; exact ⟨_, rfl⟩
            have := deed_cut (fs := [.fn t.is_item, .fn t.is_sign_name, .fn t.is_from_one]) rfl hp'
            rw [this]
            simp [cutB, q1, q2, q3, within]
        | [], hr => exact deed_pre (n := 0) (k := "cut") (fs := [.fn t.is_item, .fn t.is_sign_name, .fn t.is_from_one]) rfl (e_parts_ne (by simp)) (.inl rfl)
        | [a], hr => exact deed_pre (n := 0) (k := "cut") (fs := [.fn t.is_item, .fn t.is_sign_name, .fn t.is_from_one]) rfl (e_parts_ne (by simp)) (.inl rfl)
        | [a, b], hr => exact deed_pre (n := 0) (k := "cut") (fs := [.fn t.is_item, .fn t.is_sign_name, .fn t.is_from_one]) rfl (e_parts_ne (by simp)) (.inl rfl)
        | a :: b :: c :: d :: r, hr => exact deed_pre (n := 0) (k := "cut") (fs := [.fn t.is_item, .fn t.is_sign_name, .fn t.is_from_one]) rfl (e_parts_ne (by simp)) (.inl rfl)
      split
      · rename_i hk; subst hk
        match r, hr with
        | [a, b, c], hr =>
          have hp := e_parts (t := t) [(t.is_item, a, itemB a), (t.is_place, b, below 4 b), (t.is_whole, c, isInt c)] (by
            intro c hc; simp at hc; rcases hc with rfl | rfl | rfl
            · exact ⟨_, f1', e_item hm40 (hr _ (by simp))⟩
            · exact ⟨_, f7', e_place (hr _ (by simp))⟩
            · exact ⟨_, f8', e_whole (hr _ (by simp))⟩) (by simp)
          have := deed_pre (n := 0) (k := "set") (fs := [.fn t.is_item, .fn t.is_place, .fn t.is_whole]) rfl hp (.inr (by decide +kernel))
          simpa [setB, Bool.and_assoc] using this
        | [], hr => exact deed_pre (n := 0) (k := "set") (fs := [.fn t.is_item, .fn t.is_place, .fn t.is_whole]) rfl (e_parts_ne (by simp)) (.inl rfl)
        | [a], hr => exact deed_pre (n := 0) (k := "set") (fs := [.fn t.is_item, .fn t.is_place, .fn t.is_whole]) rfl (e_parts_ne (by simp)) (.inl rfl)
        | [a, b], hr => exact deed_pre (n := 0) (k := "set") (fs := [.fn t.is_item, .fn t.is_place, .fn t.is_whole]) rfl (e_parts_ne (by simp)) (.inl rfl)
        | a :: b :: c :: d :: r, hr => exact deed_pre (n := 0) (k := "set") (fs := [.fn t.is_item, .fn t.is_place, .fn t.is_whole]) rfl (e_parts_ne (by simp)) (.inl rfl)
      split
      · rename_i hk; subst hk
        match r, hr with
        | [a], hr =>
          have hp := e_parts (t := t) [(t.is_name, a, nameB a)] (by
            intro c hc; simp at hc; rcases hc with rfl
            · exact ⟨_, f9', e_name (hr _ (by simp))⟩) (by simp)
          have := deed_pre (n := 0) (k := "undo") (fs := [.fn t.is_name]) rfl hp (.inr (by decide +kernel))
          simpa [undoB, Bool.and_assoc] using this
        | [], hr => exact deed_pre (n := 0) (k := "undo") (fs := [.fn t.is_name]) rfl (e_parts_ne (by simp)) (.inl rfl)
        | a :: b :: r, hr => exact deed_pre (n := 0) (k := "undo") (fs := [.fn t.is_name]) rfl (e_parts_ne (by simp)) (.inl rfl)
      split
      · rename_i hk; subst hk
        match r, hr with
        | [a], hr =>
          have hp := e_parts (t := t) [(t.is_name, a, nameB a)] (by
            intro c hc; simp at hc; rcases hc with rfl
            · exact ⟨_, f9', e_name (hr _ (by simp))⟩) (by simp)
          have := deed_pre (n := 0) (k := "redo") (fs := [.fn t.is_name]) rfl hp (.inr (by decide +kernel))
          simpa [undoB, Bool.and_assoc] using this
        | [], hr => exact deed_pre (n := 0) (k := "redo") (fs := [.fn t.is_name]) rfl (e_parts_ne (by simp)) (.inl rfl)
        | a :: b :: r, hr => exact deed_pre (n := 0) (k := "redo") (fs := [.fn t.is_name]) rfl (e_parts_ne (by simp)) (.inl rfl)
      rename_i n1 n2 n3 n4 n5 n6 n7 n8
      have hl : (tab_PARTS t).lookup k = none := by
        simp only [tab_PARTS, List.lookup, beq_eq_false_iff_ne.mpr n1, beq_eq_false_iff_ne.mpr n2, beq_eq_false_iff_ne.mpr n3, beq_eq_false_iff_ne.mpr n4, beq_eq_false_iff_ne.mpr n5, beq_eq_false_iff_ne.mpr n6, beq_eq_false_iff_ne.mpr n7, beq_eq_false_iff_ne.mpr n8]
      simp [g_is_deed, q_is_deed, runQ, sRet, sSeq, sIf, sSet, sNil, fAndV, fOrV, fNotV, fAnd, fOr, fNot, fT, fIsi, fVar, isiD, f2, ltD, leB, gtD, geD, neD, intD0, intD, f1, aCons, aNil, absD, fC, powD, fChain, addD, subD, mulD, modD, fdivD, lenD, ixD, atI, ixN, fTup, fLst, fSl, sliceD, oNone, oSome, isNonD, notNonD, isNon, fIf, cutL, HT.sIx, List.getElem?_cons_zero, List.getElem?_cons_succ, he, gInD, hl]
end K02
set_option maxRecDepth 100000
set_option maxHeartbeats 1000000
namespace K02
open PySem L2 DL
variable {t : Adr}
theorem e_op {n : Nat} {a b c d : D} (nd : t.nd) (hn : n ≤ 30) (ha : nice B n a = true) (hb : nice B n b = true) (hc : nice B n c = true) (hd : nice B n d = true) :
    g_is_operation t [.tup [a, b, c, d]] = some (.bl (below 16 a && from1 b && from1 c && deedB d)) := by
  have hab : nice B (n + 1) (.tup [a, b]) = true := by simp [nice, ha, hb]
  simp [g_is_operation, q_is_operation, runQ, sRet, sSeq, sIf, sSet, sNil, fAndV, fOrV, fNotV, fAnd, fOr, fNot, fT, fIsi, fVar, isiD, f2, ltD, leB, gtD, geD, neD, intD0, intD, f1, aCons, aNil, absD, fC, powD, fChain, addD, subD, mulD, modD, fdivD, lenD, ixD, atI, ixN, fTup, fLst, fSl, sliceD, oNone, oSome, isNonD, notNonD, isNon, fIf, cutL, HT.sIx, List.getElem?_cons_zero, List.getElem?_cons_succ, e_name hab, e_from1 hc, e_deed nd (by omega) hd, nameB]
  cases below 16 a <;> cases from1 b <;> cases from1 c <;> simp
theorem eqD_str (a b : Str) : eqD (.str a) (.str b) = (a == b) := by unfold eqD; rfl
theorem eqD_int (a b : Int) : eqD (.int a) (.int b) = (a == b) := by unfold eqD; rfl
theorem any_strs (s : Str) : ∀ xs : List Str, ((xs.map D.str).any fun d => eqD d (.str s)) = xs.any (· == s)
  | [] => rfl
  | x :: xs => by rw [List.map_cons, List.any_cons, List.any_cons, any_strs s xs, eqD_str]
theorem in_strs (s : Str) (xs : List Str) : inFD false (.str s) (.tup (xs.map D.str)) = some (.bl (xs.any (· == s))) := by
  have h : (xs.map D.str).all flatD = true := by simp [List.all_eq_true, flatD]
  show (if flatD (.str s) && (xs.map D.str).all flatD then some (D.bl ((xs.map D.str).any fun d => eqD d (.str s))) else none) = _
  rw [h, any_strs]; rfl
theorem kn_put_move : (Str.ofString "put" == Str.ofString "move") = false := by decide +kernel
theorem kn_put_drop : (Str.ofString "put" == Str.ofString "drop") = false := by decide +kernel
theorem kn_put_write : (Str.ofString "put" == Str.ofString "write") = false := by decide +kernel
theorem kn_put_cut : (Str.ofString "put" == Str.ofString "cut") = false := by decide +kernel
theorem kn_put_set : (Str.ofString "put" == Str.ofString "set") = false := by decide +kernel
theorem kn_put_undo : (Str.ofString "put" == Str.ofString "undo") = false := by decide +kernel
theorem kn_put_redo : (Str.ofString "put" == Str.ofString "redo") = false := by decide +kernel
theorem kn_move_put : (Str.ofString "move" == Str.ofString "put") = false := by decide +kernel
theorem kn_move_drop : (Str.ofString "move" == Str.ofString "drop") = false := by decide +kernel
theorem kn_move_write : (Str.ofString "move" == Str.ofString "write") = false := by decide +kernel
theorem kn_move_cut : (Str.ofString "move" == Str.ofString "cut") = false := by decide +kernel
theorem kn_move_set : (Str.ofString "move" == Str.ofString "set") = false := by decide +kernel
theorem kn_move_undo : (Str.ofString "move" == Str.ofString "undo") = false := by decide +kernel
theorem kn_move_redo : (Str.ofString "move" == Str.ofString "redo") = false := by decide +kernel
theorem kn_drop_put : (Str.ofString "drop" == Str.ofString "put") = false := by decide +kernel
theorem kn_drop_move : (Str.ofString "drop" == Str.ofString "move") = false := by decide +kernel
theorem kn_drop_write : (Str.ofString "drop" == Str.ofString "write") = false := by decide +kernel
theorem kn_drop_cut : (Str.ofString "drop" == Str.ofString "cut") = false := by decide +kernel
theorem kn_drop_set : (Str.ofString "drop" == Str.ofString "set") = false := by decide +kernel
theorem kn_drop_undo : (Str.ofString "drop" == Str.ofString "undo") = false := by decide +kernel
theorem kn_drop_redo : (Str.ofString "drop" == Str.ofString "redo") = false := by decide +kernel
theorem kn_write_put : (Str.ofString "write" == Str.ofString "put") = false := by decide +kernel
theorem kn_write_move : (Str.ofString "write" == Str.ofString "move") = false := by decide +kernel
theorem kn_write_drop : (Str.ofString "write" == Str.ofString "drop") = false := by decide +kernel
theorem kn_write_cut : (Str.ofString "write" == Str.ofString "cut") = false := by decide +kernel
theorem kn_write_set : (Str.ofString "write" == Str.ofString "set") = false := by decide +kernel
theorem kn_write_undo : (Str.ofString "write" == Str.ofString "undo") = false := by decide +kernel
theorem kn_write_redo : (Str.ofString "write" == Str.ofString "redo") = false := by decide +kernel
theorem kn_cut_put : (Str.ofString "cut" == Str.ofString "put") = false := by decide +kernel
theorem kn_cut_move : (Str.ofString "cut" == Str.ofString "move") = false := by decide +kernel
theorem kn_cut_drop : (Str.ofString "cut" == Str.ofString "drop") = false := by decide +kernel
theorem kn_cut_write : (Str.ofString "cut" == Str.ofString "write") = false := by decide +kernel
theorem kn_cut_set : (Str.ofString "cut" == Str.ofString "set") = false := by decide +kernel
theorem kn_cut_undo : (Str.ofString "cut" == Str.ofString "undo") = false := by decide +kernel
theorem kn_cut_redo : (Str.ofString "cut" == Str.ofString "redo") = false := by decide +kernel
theorem kn_set_put : (Str.ofString "set" == Str.ofString "put") = false := by decide +kernel
theorem kn_set_move : (Str.ofString "set" == Str.ofString "move") = false := by decide +kernel
theorem kn_set_drop : (Str.ofString "set" == Str.ofString "drop") = false := by decide +kernel
theorem kn_set_write : (Str.ofString "set" == Str.ofString "write") = false := by decide +kernel
theorem kn_set_cut : (Str.ofString "set" == Str.ofString "cut") = false := by decide +kernel
theorem kn_set_undo : (Str.ofString "set" == Str.ofString "undo") = false := by decide +kernel
theorem kn_set_redo : (Str.ofString "set" == Str.ofString "redo") = false := by decide +kernel
theorem kn_undo_put : (Str.ofString "undo" == Str.ofString "put") = false := by decide +kernel
theorem kn_undo_move : (Str.ofString "undo" == Str.ofString "move") = false := by decide +kernel
theorem kn_undo_drop : (Str.ofString "undo" == Str.ofString "drop") = false := by decide +kernel
theorem kn_undo_write : (Str.ofString "undo" == Str.ofString "write") = false := by decide +kernel
theorem kn_undo_cut : (Str.ofString "undo" == Str.ofString "cut") = false := by decide +kernel
theorem kn_undo_set : (Str.ofString "undo" == Str.ofString "set") = false := by decide +kernel
theorem kn_undo_redo : (Str.ofString "undo" == Str.ofString "redo") = false := by decide +kernel
theorem kn_redo_put : (Str.ofString "redo" == Str.ofString "put") = false := by decide +kernel
theorem kn_redo_move : (Str.ofString "redo" == Str.ofString "move") = false := by decide +kernel
theorem kn_redo_drop : (Str.ofString "redo" == Str.ofString "drop") = false := by decide +kernel
theorem kn_redo_write : (Str.ofString "redo" == Str.ofString "write") = false := by decide +kernel
theorem kn_redo_cut : (Str.ofString "redo" == Str.ofString "cut") = false := by decide +kernel
theorem kn_redo_set : (Str.ofString "redo" == Str.ofString "set") = false := by decide +kernel
theorem kn_redo_undo : (Str.ofString "redo" == Str.ofString "undo") = false := by decide +kernel
theorem eq_str' (a b : Str) : eqD' (.str a) (.str b) = some (.bl (a == b)) := by simp [eqD', noFn, dep, eqD_str]
theorem in2 (k a b : Str) : inFD false (.str k) (.tup [.str a, .str b]) = some (.bl (a == k || b == k)) := by
  have := in_strs k [a, b]
  simpa only [List.map_cons, List.map_nil, List.any_cons, List.any_nil, Bool.or_false] using this
theorem eq_int' (a b : Int) : eqD' (.int a) (.int b) = some (.bl (a == b)) := by simp [eqD', noFn, dep, eqD_int]
end K02
set_option maxRecDepth 100000
set_option maxHeartbeats 1000000
namespace K02
open PySem L2 DL
abbrev scr (ns : List Int) : D := .lst (ns.map .int)
theorem atI_ok {α : Type} {xs : List α} {i : Int} (h0 : 0 ≤ i) (h1 : i < xs.length) : ∃ x, atI xs i = some x ∧ x ∈ xs := by
  refine ⟨xs[i.toNat]'(by omega), ?_, List.getElem_mem _⟩
  unfold atI ixN
  rw [if_pos h0, if_pos h1]
  simp
theorem cell_ok (ns : List Int) (k : Int) : ∃ c, g_Lcell [scr ns, .int k] = some (.int c) := by
  cases ns with
  | nil => exact ⟨0, by simp [g_Lcell, q_Lcell, scr, runQ, sRet, sSeq, sIf, sSet, sNil, fAndV, fOrV, fNotV, fAnd, fOr, fNot, fT, fIsi, fVar, isiD, f2, ltD, leB, gtD, geD, neD, intD0, intD, f1, aCons, aNil, absD, fC, powD, fChain, addD, subD, mulD, modD, fdivD, lenD, ixD, atI, ixN, fTup, fLst, fSl, sliceD, oNone, oSome, isNonD, notNonD, isNon, fIf, cutL, HT.sIx, List.getElem?_cons_zero, List.getElem?_cons_succ, truD]⟩
  | cons n r =>
    have hp : (0 : Int) < (r.length : Int) + 1 := by omega
    obtain ⟨x, e, hx⟩ := atI_ok (xs := ((n :: r).map D.int)) (i := k % ((r.length : Int) + 1)) (Int.emod_nonneg _ (by omega)) (by simpa using Int.emod_lt_of_pos k hp)
    obtain ⟨c, _, rfl⟩ := List.mem_map.mp hx
    refine ⟨c, ?_⟩
    have e' : ixD (.lst ((n :: r).map D.int)) (.int (k % ((r.length : Int) + 1))) = some (.int c) := e
    simp only [List.map_cons] at e'
    simp [g_Lcell, q_Lcell, scr, runQ, sRet, sSeq, sIf, sNil, fVar, truD, f2, f1, aCons, aNil, lenD, modD, intD, hp, e']
theorem mix_ok (ns : List Int) {k : Int} : ∃ m, g_Lmix [scr ns, .int k] = some (.int m) ∧ 0 ≤ m ∧ m < 4294967231 := by
  obtain ⟨c, hc⟩ := cell_ok ns k
  refine ⟨_, by simp [g_Lmix, q_Lmix, runQ, sRet, sSeq, sIf, sSet, sNil, fAndV, fOrV, fNotV, fAnd, fOr, fNot, fT, fIsi, fVar, isiD, f2, ltD, leB, gtD, geD, neD, intD0, intD, f1, aCons, aNil, absD, fC, powD, fChain, addD, subD, mulD, modD, fdivD, lenD, ixD, atI, ixN, fTup, fLst, fSl, sliceD, oNone, oSome, isNonD, notNonD, isNon, fIf, cutL, HT.sIx, List.getElem?_cons_zero, List.getElem?_cons_succ, hc, mulOk]; rfl, Int.emod_nonneg _ (by decide), Int.emod_lt_of_pos _ (by decide)⟩
theorem pick_ok {xs : List D} {n : Int} (h : xs ≠ []) : ∃ x, g_Lpick [.lst xs, .int n] = some x ∧ x ∈ xs := by
  have hl : 0 < xs.length := List.length_pos_iff.mpr h
  have hp : (0 : Int) < (xs.length : Int) := by omega
  obtain ⟨x, e, hx⟩ := atI_ok (xs := xs) (i := n % (xs.length : Int)) (Int.emod_nonneg _ (by omega)) (Int.emod_lt_of_pos n hp)
  refine ⟨x, ?_, hx⟩
  have e' : ixD (.lst xs) (.int (n % (xs.length : Int))) = some x := e
  simp [g_Lpick, q_Lpick, runQ, sRet, fVar, f2, f1, aCons, aNil, lenD, modD, intD, hp, e', hl]
theorem loop_inv {bnd : D → DEnv → Option DEnv} {q : DEnv → Option Fl} (P : Nat → DEnv → Prop) : ∀ (ds : List D) (i : Nat) (ρ : DEnv), P i ρ →
    (∀ (j : Nat) (d : D) (ρ : DEnv), ds[j]? = some d → P (i + j) ρ → ∃ ρ1 ρ2, bnd d ρ = some ρ1 ∧ q ρ1 = some (.nx ρ2) ∧ P (i + j + 1) ρ2) →
    ∃ ρ', loopF bnd q ds ρ = some (.nx ρ') ∧ P (i + ds.length) ρ'
  | [], i, ρ, h, _ => ⟨ρ, rfl, h⟩
  | d :: ds, i, ρ, h, hs => by
    obtain ⟨ρ1, ρ2, e1, e2, h2⟩ := hs 0 d ρ rfl h
    obtain ⟨ρ', e3, h3⟩ := loop_inv P ds (i + 1) ρ2 h2 fun j d ρ hd hp => by
      have := hs (j + 1) d ρ (by simpa using hd) (by rw [show i + (j + 1) = i + 1 + j by omega]; exact hp)
      rw [show i + (j + 1) + 1 = i + 1 + j + 1 by omega] at this
      exact this
    refine ⟨ρ', ?_, by rw [List.length_cons, show i + (ds.length + 1) = i + 1 + ds.length by omega]; exact h3⟩
    simp [loopF, e1, e2, e3]
theorem comp_inv {bnd : D → DEnv → Option DEnv} {ft : DEnv → Option Bool} {fe : DEnv → Option D} {ρ : DEnv} (R : D → Prop) : ∀ (ds : List D), (∀ d ∈ ds, ∃ ρ1 b, bnd d ρ = some ρ1 ∧ ft ρ1 = some b ∧ (b = true → ∃ y, fe ρ1 = some y ∧ R y)) →
    ∃ ys, compF bnd ft fe ρ ds = some ys ∧ ys.length ≤ ds.length ∧ ∀ y ∈ ys, R y
  | [], _ => ⟨[], rfl, Nat.le_refl _, fun y hy => by cases hy⟩
  | d :: ds, h => by
    obtain ⟨ρ1, b, e1, e2, hy⟩ := h d List.mem_cons_self
    obtain ⟨ys, e3, hl, hr⟩ := comp_inv R ds fun x hx => h x (List.mem_cons_of_mem _ hx)
    cases b with
    | false => exact ⟨ys, by simp [compF, e1, e2, e3], by simp; omega, hr⟩
    | true =>
      obtain ⟨y, e4, r4⟩ := hy rfl
      refine ⟨y :: ys, by simp [compF, e1, e2, e3, e4], by simp; omega, fun z hz => ?_⟩
      rcases List.mem_cons.mp hz with rfl | hz
      · exact r4
      · exact hr z hz
theorem comp_len_eq {bnd : D → DEnv → Option DEnv} {fe : DEnv → Option D} {ρ : DEnv} : ∀ {ds ys : List D}, compF bnd (fun _ => some true) fe ρ ds = some ys → ys.length = ds.length
  | [], ys, e => by cases e; rfl
  | d :: ds, ys, e => by
    unfold compF at e
    obtain ⟨ρ1, e1, e⟩ := Option.bind_eq_some_iff.mp e
    simp only [Option.bind_some, if_true] at e
    obtain ⟨y, e3, e⟩ := Option.bind_eq_some_iff.mp e
    obtain ⟨zs, e4, rfl⟩ := Option.map_eq_some_iff.mp e
    simp [comp_len_eq e4]
end K02
set_option maxRecDepth 100000
set_option maxHeartbeats 1000000
namespace K02
open PySem L2 DL
def NameG (x : D) : Prop := ∃ a b, x = .tup [.int a, .int b] ∧ 0 ≤ a ∧ a < 16 ∧ 1 ≤ b ∧ b ≤ 2000
def ItemG (x : D) : Prop := x = .str "root" ∨ x = .str "bin" ∨ NameG x
def SibG (x : D) : Prop := x = .non ∨ NameG x
def SignT (x : D) : Prop := ∃ a b c, x = .tup [.int a, .int b, .int c] ∧ 0 ≤ a ∧ a < 16 ∧ 1 ≤ b ∧ b ≤ 2000 ∧ 0 ≤ c ∧ c ≤ 15
def SignG (x : D) : Prop := x = .non ∨ SignT x
inductive DG : D → Prop
  | put {a b : D} : ItemG a → SibG b → DG (.tup [.str "put", a, b])
  | move {a b c : D} : ItemG a → ItemG b → SibG c → DG (.tup [.str "move", a, b, c])
  | drop {a : D} : ItemG a → DG (.tup [.str "drop", a])
  | write {a b : D} {s : Str} : ItemG a → SignG b → okStr s = true → 1 ≤ s.length → s.length ≤ 16 → DG (.tup [.str "write", a, b, .str s])
  | cut {a : D} {x y z m : Int} : ItemG a → SignT (.tup [.int x, .int y, .int z]) → 1 ≤ m → z + m ≤ 16 → DG (.tup [.str "cut", a, .tup [.int x, .int y, .int z], .int m])
  | set {a : D} {p n : Int} : ItemG a → 0 ≤ p → p ≤ 3 → n.natAbs < 10 ^ 60 → DG (.tup [.str "set", a, .int p, .int n])
  | undo {a : D} : NameG a → DG (.tup [.str "undo", a])
  | redo {a : D} : NameG a → DG (.tup [.str "redo", a])
def OpOk (o : D) : Prop := ∃ h n tm d, o = .tup [.int h, .int n, .int tm, d] ∧ 0 ≤ h ∧ h < 16 ∧ 1 ≤ n ∧ n ≤ 2000 ∧ DG d
theorem dg_shape {d : D} (h : DG d) : ∃ k r, d = .tup (.str k :: r) ∧ (k = "write" → ∃ a b s, r = [a, b, .str s] ∧ s.length ≤ 16) := by
  cases h with
  | write _ _ _ _ h5 => exact ⟨_, _, rfl, fun _ => ⟨_, _, _, rfl, h5⟩⟩
  | _ => exact ⟨_, _, rfl, fun z => absurd z (by decide +kernel)⟩
theorem items_ok {ops : List D} (h : ∀ o ∈ ops, OpOk o) (hl : ops.length ≤ 100) : ∃ its, g_Litems [.lst ops] = some (.lst its) ∧ 3 ≤ its.length ∧ its.length ≤ 200 ∧ ∀ x ∈ its, ItemG x := by
  obtain ⟨ys, e, l, hr⟩ := comp_inv (ρ := [none]) (bnd := bName 0) (ft := fT (f2 eqD' (f2 ixD (f2 ixD (fVar 0) (fC (.int 3))) (fC (.int 0))) (fC (.str "put")))) (fe := fTup (aCons (f2 ixD (fVar 0) (fC (.int 0))) (aCons (f2 ixD (fVar 0) (fC (.int 1))) aNil)))
    (fun y => NameG y) ops (by
      intro o ho
      obtain ⟨h', n, tm, d, rfl, b1, b2, b3, b4, hd⟩ := h o ho
      obtain ⟨k, r, rfl, _⟩ := dg_shape hd
      refine ⟨_, _, rfl, by simp [runQ, sRet, sSeq, sIf, sSet, sNil, fAndV, fOrV, fNotV, fAnd, fOr, fNot, fT, fIsi, fVar, isiD, f2, ltD, leB, gtD, geD, neD, intD0, intD, f1, aCons, aNil, absD, fC, powD, fChain, addD, subD, mulD, modD, fdivD, lenD, ixD, atI, ixN, fTup, fLst, fSl, sliceD, oNone, oSome, isNonD, notNonD, isNon, fIf, cutL, HT.sIx, List.getElem?_cons_zero, List.getElem?_cons_succ, eq_str']; rfl, fun _ => ⟨_, by simp [runQ, sRet, sSeq, sIf, sSet, sNil, fAndV, fOrV, fNotV, fAnd, fOr, fNot, fT, fIsi, fVar, isiD, f2, ltD, leB, gtD, geD, neD, intD0, intD, f1, aCons, aNil, absD, fC, powD, fChain, addD, subD, mulD, modD, fdivD, lenD, ixD, atI, ixN, fTup, fLst, fSl, sliceD, oNone, oSome, isNonD, notNonD, isNon, fIf, cutL, HT.sIx, List.getElem?_cons_zero, List.getElem?_cons_succ], ⟨_, _, rfl, b1, b2, b3, b4⟩⟩⟩)
  have hc : fComp 1 [] (iLst (fVar 0)) (bName 0) (fT (f2 eqD' (f2 ixD (f2 ixD (fVar 0) (fC (.int 3))) (fC (.int 0))) (fC (.str "put")))) (fTup (aCons (f2 ixD (fVar 0) (fC (.int 0))) (aCons (f2 ixD (fVar 0) (fC (.int 1))) aNil))) [some (.lst ops)] = some (.lst ys) := by
    show (if ops.length ≤ big then Option.map D.lst (compF _ _ _ [none] ops) else none) = _
    rw [if_pos (by unfold big; omega), e]; rfl
  have a1 : addD (.lst [.str "root"]) (.lst ys) = some (.lst (.str "root" :: ys)) := by
    show (if 1 + ys.length ≤ big then some (D.lst ([.str "root"] ++ ys)) else none) = _
    rw [if_pos (by unfold big; omega)]; rfl
  have a2 : addD (.lst (.str "root" :: ys)) (.lst [.str "bin", .tup [.int 9, .int 9]]) = some (.lst (.str "root" :: (ys ++ [.str "bin", .tup [.int 9, .int 9]]))) := by
    show (if ys.length + 1 + 2 ≤ big then some (D.lst (.str "root" :: ys ++ [.str "bin", .tup [.int 9, .int 9]])) else none) = _
    rw [if_pos (by unfold big; omega)]; rfl
  refine ⟨.str "root" :: (ys ++ [.str "bin", .tup [.int 9, .int 9]]), by simp [g_Litems, q_Litems, runQ, sRet, f2, fC, hc, a1, a2], by simp, by simp; omega, fun x hx => ?_⟩
  simp at hx
  rcases hx with rfl | hx | rfl | rfl
  · exact .inl rfl
  · exact .inr (.inr (hr x hx))
  · exact .inr (.inl rfl)
  · exact .inr (.inr ⟨9, 9, rfl, by decide, by decide, by decide, by decide⟩)
theorem signs_ok {ops : List D} (h : ∀ o ∈ ops, OpOk o) (hl : ops.length ≤ 100) : ∃ ss, g_Lsigns [.lst ops] = some (.lst ss) ∧ ss ≠ [] ∧ ∀ x ∈ ss, SignG x := by
  let P : Nat → DEnv → Prop := fun i ρ => ∃ found x y, ρ = [some (.lst ops), some (.lst found), x, y] ∧ found ≠ [] ∧ found.length ≤ 2 + 16 * i ∧ ∀ z ∈ found, SignG z
  obtain ⟨ρ', e, found, x, y, rfl, f0, _, hf⟩ := loop_inv (bnd := bSet 2) (q := sIf (fT (f2 eqD' (f2 ixD (f2 ixD (fVar 2) (fC (.int 3))) (fC (.int 0))) (fC (.str "write")))) (sFor (iRng (f1 lenD (aCons (f2 ixD (f2 ixD (fVar 2) (fC (.int 3))) (fC (.int 3))) aNil))) (bSet 3) (sApp 1 (fTup (aCons (f2 ixD (fVar 2) (fC (.int 0))) (aCons (f2 ixD (fVar 2) (fC (.int 1))) (aCons (fVar 3) aNil)))))) sNil)
    P ops 0 [some (.lst ops), some (.lst [.non, .tup [.int 9, .int 9, .int 3]]), none, none] ⟨_, _, _, rfl, by simp, by simp, by
      intro z hz; simp at hz; rcases hz with rfl | rfl
      · exact .inl rfl
      · exact .inr ⟨9, 9, 3, rfl, by decide, by decide, by decide, by decide, by decide, by decide⟩⟩ (by
    rintro j d ρ hd ⟨found, x, y, rfl, f0, fl, hf⟩
    have hj : j < ops.length := (List.getElem?_eq_some_iff.mp hd).1
    obtain ⟨h', n, tm, d', rfl, b1, b2, b3, b4, hdg⟩ := h d (List.mem_of_getElem? hd)
    obtain ⟨k, r, rfl, hw⟩ := dg_shape hdg
    by_cases hk : k = "write"
    · subst hk
      obtain ⟨a, b, s, rfl, s16⟩ := hw rfl
      have hsl : s.length ≤ big := by unfold big; omega
      let P2 : Nat → DEnv → Prop := fun i ρ => ∃ found y, ρ = [some (.lst ops), some (.lst found), some (.tup [.int h', .int n, .int tm, .tup [.str "write", a, b, .str s]]), y] ∧ found ≠ [] ∧ found.length ≤ 2 + 16 * (0 + j) + i ∧ ∀ z ∈ found, SignG z
      obtain ⟨ρ2, e2, found2, y2, rfl, f20, f2l, hf2⟩ := loop_inv (bnd := bSet 3) (q := sApp 1 (fTup (aCons (f2 ixD (fVar 2) (fC (.int 0))) (aCons (f2 ixD (fVar 2) (fC (.int 1))) (aCons (fVar 3) aNil))))) P2 (rangeD s.length) 0
        [some (.lst ops), some (.lst found), some (.tup [.int h', .int n, .int tm, .tup [.str "write", a, b, .str s]]), y] ⟨found, y, rfl, f0, fl, hf⟩ (by
          rintro i d ρ hd ⟨found, y, rfl, f0, fl, hf⟩
          unfold rangeD at hd
          rw [List.getElem?_map] at hd
          obtain ⟨i', hi', rfl⟩ := Option.map_eq_some_iff.mp hd
          obtain ⟨hlt, he⟩ := List.getElem?_eq_some_iff.mp hi'
          rw [List.getElem_range] at he
          subst he
          rw [List.length_range] at hlt
          have hb : found.length < big := by unfold big; omega
          refine ⟨_, _, rfl, by simp [sApp, runQ, sRet, sSeq, sIf, sSet, sNil, fAndV, fOrV, fNotV, fAnd, fOr, fNot, fT, fIsi, fVar, isiD, f2, ltD, leB, gtD, geD, neD, intD0, intD, f1, aCons, aNil, absD, fC, powD, fChain, addD, subD, mulD, modD, fdivD, lenD, ixD, atI, ixN, fTup, fLst, fSl, sliceD, oNone, oSome, isNonD, notNonD, isNon, fIf, cutL, HT.sIx, List.getElem?_cons_zero, List.getElem?_cons_succ, hb]; rfl, found ++ [.tup [.int h', .int n, .int (i : Nat)]], _, rfl, by simp, by simp; omega, fun z hz => ?_⟩
          rcases List.mem_append.mp hz with hz | hz
          · exact hf z hz
          · simp at hz; subst hz; exact .inr ⟨_, _, _, rfl, b1, b2, b3, b4, by omega, by omega⟩)
      have hr : -1000 ≤ (s.length : Int) ∧ (s.length : Int) ≤ 100000 := by omega
      refine ⟨_, [some (.lst ops), some (.lst found2), some (.tup [.int h', .int n, .int tm, .tup [.str "write", a, b, .str s]]), y2], rfl, by simp [runQ, sRet, sSeq, sIf, sSet, sNil, fAndV, fOrV, fNotV, fAnd, fOr, fNot, fT, fIsi, fVar, isiD, f2, ltD, leB, gtD, geD, neD, intD0, intD, f1, aCons, aNil, absD, fC, powD, fChain, addD, subD, mulD, modD, fdivD, lenD, ixD, atI, ixN, fTup, fLst, fSl, sliceD, oNone, oSome, isNonD, notNonD, isNon, fIf, cutL, HT.sIx, List.getElem?_cons_zero, List.getElem?_cons_succ, eq_str', sFor, iRng, hsl, hr, e2], found2, _, _, rfl, f20, ?_, hf2⟩
      simp [rangeD] at f2l
      omega
    · refine ⟨_, [some (.lst ops), some (.lst found), some (.tup [.int h', .int n, .int tm, .tup (.str k :: r)]), y], rfl, by simp [runQ, sRet, sSeq, sIf, sSet, sNil, fAndV, fOrV, fNotV, fAnd, fOr, fNot, fT, fIsi, fVar, isiD, f2, ltD, leB, gtD, geD, neD, intD0, intD, f1, aCons, aNil, absD, fC, powD, fChain, addD, subD, mulD, modD, fdivD, lenD, ixD, atI, ixN, fTup, fLst, fSl, sliceD, oNone, oSome, isNonD, notNonD, isNon, fIf, cutL, HT.sIx, List.getElem?_cons_zero, List.getElem?_cons_succ, eq_str', hk], found, _, _, rfl, f0, by omega, hf⟩)
  refine ⟨found, ?_, f0, hf⟩
  simp [g_Lsigns, q_Lsigns, sNew, runQ, sSeq, aCons, aNil, fC, sFor, iLst, fVar, sRet, e]
end K02
set_option maxRecDepth 100000
set_option maxHeartbeats 1000000
namespace K02
open PySem L2 DL
abbrev letters : Str := " abcXYZ.,;!019~[]\\\"'|{}<>@#$&*()-+/=_^:?`"
theorem letters_len : letters.length = 41 := by decide +kernel
theorem letters_ok : letters.cps.toList.all okSign = true := by decide +kernel
theorem empty_cps : (Str.ofString "").cps = #[] := by decide +kernel
theorem empty_len : (Str.ofString "").length = 0 := by decide +kernel
def oneS (c : Nat) : D := .str ⟨#[c]⟩
theorem strs_one : ∀ (xs : List D), (∀ x ∈ xs, ∃ c, x = oneS c ∧ okSign c = true) → ∃ cs : List Nat, xs = cs.map oneS ∧ cs.all okSign = true
  | [], _ => ⟨[], rfl, rfl⟩
  | x :: xs, h => by
    obtain ⟨c, rfl, hc⟩ := h x List.mem_cons_self
    obtain ⟨cs, rfl, hcs⟩ := strs_one xs fun y hy => h y (List.mem_cons_of_mem _ hy)
    exact ⟨c :: cs, rfl, by simp only [List.all_cons, hc, hcs, Bool.and_self]⟩
theorem strsD_one : ∀ (cs : List Nat), strsD (cs.map oneS) = some (cs.map fun c => (⟨#[c]⟩ : Str))
  | [] => rfl
  | c :: cs => by simp only [List.map_cons, oneS, strsD]; rw [show List.map oneS cs = List.map oneS cs from rfl, strsD_one cs]; rfl
theorem fold_one : ∀ (cs : List Nat) (acc : Array Nat), (cs.map fun c => (⟨#[c]⟩ : Str)).foldl (fun acc p => acc ++ (Str.ofString "").cps ++ p.cps) acc = acc ++ cs.toArray
  | [], acc => by simp
  | c :: cs, acc => by
    rw [List.map_cons, List.foldl_cons, fold_one cs, empty_cps]
    simp
theorem join_one (cs : List Nat) : Txt.join (Str.ofString "") (cs.map fun c => (⟨#[c]⟩ : Str)) = ⟨cs.toArray⟩ := by
  unfold Txt.join Builtin.Str.glued
  cases cs with
  | nil => rfl
  | cons c cs =>
    simp only [List.map_cons, List.drop_succ_cons, List.drop_zero, List.headD_cons]
    rw [fold_one]
    simp
theorem sum_one : ∀ (cs : List Nat), ((cs.map fun c => (⟨#[c]⟩ : Str)).map (·.length)).sum = cs.length
  | [] => rfl
  | c :: cs => by
    have ih := sum_one cs
    simp only [List.map_cons, List.sum_cons, List.length_cons]
    rw [ih]
    show 1 + cs.length = _
    omega
theorem text_ok {n most : Int} (h1 : 1 ≤ most) (h16 : most ≤ 16) : ∃ s, g_Ltext [.int n, .int most] = some (.str s) ∧ okStr s = true ∧ 1 ≤ s.length ∧ s.length ≤ 16 := by
  have hm0 : 0 ≤ n % most := Int.emod_nonneg _ (by omega)
  have hm1 : n % most < most := Int.emod_lt_of_pos _ (by omega)
  obtain ⟨N, hN⟩ : ∃ N : Nat, (N : Int) = 1 + n % most := ⟨(1 + n % most).toNat, by omega⟩
  have hN1 : 1 ≤ N := by omega
  have hN2 : N ≤ 16 := by omega
  obtain ⟨ys, e, l, hr⟩ := comp_inv (ρ := [none, some (.int n), some (.str letters)]) (bnd := bName 0) (ft := fun _ => some true) (fe := f2 ixD (fVar 2) (f2 modD (f2 fdivD (fVar 1) (f2 addD (fC (.int 1)) (f2 mulD (fC (.int 3)) (fVar 0)))) (fC (.int 41))))
    (fun y => ∃ c, y = oneS c ∧ okSign c = true) (rangeD N) (by
      intro d hd
      unfold rangeD at hd
      obtain ⟨i, hi, rfl⟩ := List.mem_map.mp hd
      have hi' := List.mem_range.mp hi
      have z1 : (0 : Int) < 1 + 3 * (i : Int) := by omega
      have z2 : 1 + 3 * (i : Int) < 1073741824 := by omega
      have hlen : letters.length ≤ big := by rw [letters_len]; decide
      have hsz : ((letters.cps.toList.length : Nat) : Int) = 41 := by
        have : letters.cps.toList.length = 41 := by rw [← letters_len]; simp [Str.length]
        omega
      obtain ⟨c, ec, hc⟩ := atI_ok (xs := letters.cps.toList) (i := n / (1 + 3 * (i : Int)) % 41) (Int.emod_nonneg _ (by decide)) (by rw [hsz]; exact Int.emod_lt_of_pos _ (by decide))
      have hix : ixD (.str letters) (.int (n / (1 + 3 * (i : Int)) % 41)) = some (oneS c) := by
        show (if letters.length ≤ big then (atI letters.cps.toList _).map _ else none) = _
        rw [if_pos hlen, ec]; rfl
      refine ⟨_, true, rfl, rfl, fun _ => ⟨oneS c, ?_, c, rfl, List.all_eq_true.mp letters_ok c hc⟩⟩
      simp [bName, f2, fVar, fC, addD, mulD, intD, mulOk, fdivD, modD, z1, z2, hix])
  have l2 := comp_len_eq e
  obtain ⟨cs, rfl, hcs⟩ := strs_one ys hr
  have hcl : cs.length = N := by simpa [rangeD] using l2
  have hrng : -1000 ≤ (N : Int) ∧ (N : Int) ≤ 100000 := by omega
  have hc : fComp 1 [0, 2] (iRng (f2 addD (fC (.int 1)) (f2 modD (fVar 0) (fVar 1)))) (bName 0) (fun _ => some true) (f2 ixD (fVar 2) (f2 modD (f2 fdivD (fVar 1) (f2 addD (fC (.int 1)) (f2 mulD (fC (.int 3)) (fVar 0)))) (fC (.int 41)))) [some (.int n), some (.int most), some (.str letters)] = some (.lst (cs.map oneS)) := by
    have hi : iRng (f2 addD (fC (.int 1)) (f2 modD (fVar 0) (fVar 1))) [some (.int n), some (.int most), some (.str letters)] = some (rangeD N) := by
      simp [iRng, f2, fC, fVar, modD, intD, show 0 < most by omega, addD, ← hN, hrng]
    unfold fComp
    rw [hi]
    show (if (rangeD N).length ≤ big then Option.map D.lst (compF _ _ _ [none, some (.int n), some (.str letters)] (rangeD N)) else none) = _
    rw [if_pos (by simp [rangeD, big]; omega), e]; rfl
  have hj : joinD (.str "") (.lst (cs.map oneS)) = some (.str ⟨cs.toArray⟩) := by
    unfold joinD
    simp only [strsD_one, Option.bind_some, sum_one, List.length_map, empty_len, Nat.mul_zero, Nat.add_zero, join_one]
    rw [if_pos (by unfold big; omega)]
  refine ⟨⟨cs.toArray⟩, ?_, ?_, ?_, ?_⟩
  · simp [g_Ltext, q_Ltext, runQ, sSeq, sSet, fC, sRet, fJoin, hc, hj]
  · simp only [okStr, Str.length, List.size_toArray, hcs, Bool.and_true, decide_eq_true_eq]; omega
  · simp only [Str.length, List.size_toArray]; omega
  · simp only [Str.length, List.size_toArray]; omega
end K02
set_option maxRecDepth 100000
set_option maxHeartbeats 1000000
namespace K02
open PySem L2 DL
def dq0 : DEnv → Option Fl := (sSet 4 (f1 g_Lmix (aCons (fVar 0) (aCons (fVar 1) aNil))))
def dq1 : DEnv → Option Fl := (sSet 5 (f1 g_Litems (aCons (fVar 2) aNil)))
def dq2 : DEnv → Option Fl := (sSet 6 (f1 g_Lpick (aCons (f2 addD (fSl (fVar 5) (oSome (fC (.int 1))) oNone) (fSl (fVar 5) oNone (oSome (fC (.int 1))))) (aCons (f1 g_Lmix (aCons (fVar 0) (aCons (f2 addD (fVar 1) (fC (.int 1))) aNil))) aNil))))
def dq3 : DEnv → Option Fl := (sSet 7 (f1 g_Lpick (aCons (f2 addD (fVar 5) (fC (.lst [.non, .non]))) (aCons (f1 g_Lmix (aCons (fVar 0) (aCons (f2 addD (fVar 1) (fC (.int 2))) aNil))) aNil))))
def dq4 : DEnv → Option Fl := (sIf (fT (fIsi "str" (fVar 7))) (sSet 7 (fC .non)) sNil)
def dq5 : DEnv → Option Fl := (sSet 8 (fC (.lst [(.str "put"), (.str "put"), (.str "put"), (.str "move"), (.str "move"), (.str "write"), (.str "write"), (.str "cut"), (.str "set"), (.str "undo"), (.str "redo"), (.str "drop")])))
def dq6 : DEnv → Option Fl := (sSet 9 (f2 ixD (fVar 8) (f2 modD (fVar 4) (fC (.int 12)))))
def dq7 : DEnv → Option Fl := (sIf (fT (f2 eqD' (fVar 9) (fC (.str "put")))) (sRet (fTup (aCons (fVar 9) (aCons (f1 g_Lpick (aCons (fVar 5) (aCons (f1 g_Lmix (aCons (fVar 0) (aCons (f2 addD (fVar 1) (fC (.int 1))) aNil))) aNil))) (aCons (fVar 7) aNil))))) sNil)
def dq8 : DEnv → Option Fl := (sIf (fT (f2 eqD' (fVar 9) (fC (.str "move")))) (sRet (fTup (aCons (fVar 9) (aCons (fVar 6) (aCons (f1 g_Lpick (aCons (fVar 5) (aCons (f1 g_Lmix (aCons (fVar 0) (aCons (f2 addD (fVar 1) (fC (.int 3))) aNil))) aNil))) (aCons (fVar 7) aNil)))))) sNil)
def dq9 : DEnv → Option Fl := (sIf (fT (f2 eqD' (fVar 9) (fC (.str "drop")))) (sRet (fTup (aCons (fVar 9) (aCons (fVar 6) aNil)))) sNil)
def dq10 : DEnv → Option Fl := (sSet 10 (f1 g_Lpick (aCons (f1 g_Lsigns (aCons (fVar 2) aNil)) (aCons (f1 g_Lmix (aCons (fVar 0) (aCons (f2 addD (fVar 1) (fC (.int 4))) aNil))) aNil))))
def dq11 : DEnv → Option Fl := (sIf (fT (f2 eqD' (fVar 9) (fC (.str "write")))) (sRet (fTup (aCons (fVar 9) (aCons (fVar 6) (aCons (fVar 10) (aCons (f1 g_Ltext (aCons (f1 g_Lmix (aCons (fVar 0) (aCons (f2 addD (fVar 1) (fC (.int 5))) aNil))) (aCons (fVar 3) aNil))) aNil)))))) sNil)
def dq12 : DEnv → Option Fl := (sIf (fAnd (fT (f2 eqD' (fVar 9) (fC (.str "cut")))) (fT (f2 notNonD (fVar 10) (fC .non)))) (sRet (fTup (aCons (fVar 9) (aCons (fVar 6) (aCons (fVar 10) (aCons (f2 addD (fC (.int 1)) (f2 modD (f2 fdivD (fVar 4) (fC (.int 12))) (f2 subD (fC (.int 16)) (f2 ixD (fVar 10) (fC (.int 2)))))) aNil)))))) sNil)
def dq13 : DEnv → Option Fl := (sIf (fT (f2 (inFD false) (fVar 9) (fC (.tup [(.str "cut"), (.str "set")])))) (sRet (fTup (aCons (fC (.str "set")) (aCons (fVar 6) (aCons (f2 modD (f2 fdivD (fVar 4) (fC (.int 12))) (fC (.int 4))) (aCons (f2 subD (f2 modD (f2 fdivD (fVar 4) (fC (.int 48))) (fC (.int 2000))) (fC (.int 1000))) aNil)))))) sNil)
def dq14 : DEnv → Option Fl := (sSet 11 (f2 addD (fComp 1 [] (iLst (fVar 2)) (bName 0) (fun _ => some true) (fTup (aCons (f2 ixD (fVar 0) (fC (.int 0))) (aCons (f2 ixD (fVar 0) (fC (.int 1))) aNil)))) (fLst (aCons (fTup (aCons (fC (.int 0)) (aCons (f2 addD (fC (.int 1)) (f2 modD (fVar 4) (fC (.int 5)))) aNil))) aNil))))
def dq15 : DEnv → Option Fl := (sRet (fTup (aCons (fVar 9) (aCons (f1 g_Lpick (aCons (fVar 11) (aCons (f1 g_Lmix (aCons (fVar 0) (aCons (f2 addD (fVar 1) (fC (.int 1))) aNil))) aNil))) aNil))))
def dqB : DEnv → Option Fl := (sSeq dq7 (sSeq dq8 (sSeq dq9 (sSeq dq10 (sSeq dq11 (sSeq dq12 (sSeq dq13 (sSeq dq14 dq15))))))))
theorem q_deed_eq : q_Ldeed = (sSeq dq0 (sSeq dq1 (sSeq dq2 (sSeq dq3 (sSeq dq4 (sSeq dq5 (sSeq dq6 dqB))))))) := rfl
theorem seq_nx {q1 q2 : DEnv → Option Fl} {ρ ρ' : DEnv} (h : q1 ρ = some (.nx ρ')) : sSeq q1 q2 ρ = q2 ρ' := by simp [sSeq, h]
theorem set_nx {f : DEnv → Option D} {ρ : DEnv} {d : D} {i : Nat} (h : f ρ = some d) : sSet i f ρ = some (.nx (ρ.set i (some d))) := by simp [sSet, h]
abbrev kinds : List D := [.str "put", .str "put", .str "put", .str "move", .str "move", .str "write", .str "write", .str "cut", .str "set", .str "undo", .str "redo", .str "drop"]
def KindOk (k : Str) : Prop := k = "put" ∨ k = "move" ∨ k = "write" ∨ k = "cut" ∨ k = "set" ∨ k = "undo" ∨ k = "redo" ∨ k = "drop"
theorem cutL_mem {α : Type} {xs : List α} {lo hi : Option Int} {x : α} (h : x ∈ cutL xs lo hi) : x ∈ xs := List.mem_of_mem_drop (List.mem_of_mem_take h)
def othOf : D → D
  | .str _ => .non
  | d => d
theorem item_isi {d : D} (h : ItemG d ∨ d = .non) : (isiD "str" d = some true ∧ othOf d = .non) ∨ (isiD "str" d = some false ∧ othOf d = d ∧ SibG d) := by
  rcases h with (rfl | rfl | ⟨a, b, rfl, h⟩) | rfl
  · exact .inl ⟨rfl, rfl⟩
  · exact .inl ⟨rfl, rfl⟩
  · exact .inr ⟨rfl, rfl, .inr ⟨a, b, rfl, h⟩⟩
  · exact .inr ⟨rfl, rfl, .inl rfl⟩
theorem deed_A (ns : List Int) {base most : Int} {ops : List D} (h : ∀ o ∈ ops, OpOk o) (hl : ops.length ≤ 100) : ∃ m0 its item other k, 0 ≤ m0 ∧ its ≠ [] ∧ (∀ x ∈ its, ItemG x) ∧ ItemG item ∧ SibG other ∧ KindOk k ∧
    q_Ldeed [some (scr ns), some (.int base), some (.lst ops), some (.int most), none, none, none, none, none, none, none, none] = dqB [some (scr ns), some (.int base), some (.lst ops), some (.int most), some (.int m0), some (.lst its), some item, some other, some (.lst kinds), some (.str k), none, none] := by
  obtain ⟨m0, e0, p0, _⟩ := mix_ok ns (k := base)
  obtain ⟨m1, e1, _, _⟩ := mix_ok ns (k := base + 1)
  obtain ⟨m2, e2, _, _⟩ := mix_ok ns (k := base + 2)
  obtain ⟨its, ei, i3, i200, hits⟩ := items_ok h hl
  have hi0 : its ≠ [] := by intro z; subst z; simp at i3
  -- the item
  have rl : (cutL its (some 1) none ++ cutL its none (some 1)) ≠ [] := by
    intro z
    have z2 := congrArg List.length z
    simp [cutL, HT.sIx] at z2
    omega
  have hcl : (cutL its (some 1) none).length + (cutL its none (some 1)).length ≤ big := by
    simp [cutL, HT.sIx, big]; omega
  obtain ⟨item, ep, mp⟩ := pick_ok (n := m1) rl
  have hitem : ItemG item := by
    rcases List.mem_append.mp mp with z | z
    · exact hits _ (cutL_mem z)
    · exact hits _ (cutL_mem z)
  have a1 : addD (.lst (cutL its (some 1) none)) (.lst (cutL its none (some 1))) = some (.lst (cutL its (some 1) none ++ cutL its none (some 1))) := by
    show (if _ ≤ big then _ else none) = _
    rw [if_pos hcl]
  have a2 : addD (.lst its) (.lst [.non, .non]) = some (.lst (its ++ [.non, .non])) := by
    show (if its.length + 2 ≤ big then _ else none) = _
    rw [if_pos (by unfold big; omega)]
  obtain ⟨oth, eo, mo⟩ := pick_ok (n := m2) (xs := its ++ [.non, .non]) (by simp)
  have hoth : ItemG oth ∨ oth = .non := by
    rcases List.mem_append.mp mo with z | z
    · exact .inl (hits _ z)
    · simp at z; exact .inr z
  have hos : SibG (othOf oth) := by
    rcases item_isi hoth with ⟨_, z⟩ | ⟨_, z, y⟩
    · rw [z]; exact .inl rfl
    · rw [z]; exact y
  -- the kind
  obtain ⟨kd, ek, mk⟩ := atI_ok (xs := kinds) (i := m0 % 12) (Int.emod_nonneg _ (by decide)) (by show _ < (12 : Int); exact Int.emod_lt_of_pos _ (by decide))
  obtain ⟨k, rfl, hk⟩ : ∃ k, kd = .str k ∧ KindOk k := by
    simp [kinds] at mk
    unfold KindOk
    rcases mk with rfl | rfl | rfl | rfl | rfl | rfl | rfl | rfl <;> exact ⟨_, rfl, by simp⟩
  have ek' : ixD (.lst kinds) (.int (m0 % 12)) = some (.str k) := ek
  refine ⟨m0, its, item, othOf oth, k, p0, hi0, hits, hitem, hos, hk, ?_⟩
  rw [q_deed_eq]
  rw [seq_nx (ρ' := [some (scr ns), some (.int base), some (.lst ops), some (.int most), some (.int m0), none, none, none, none, none, none, none]) (set_nx (by simp [f1, aCons, fVar, aNil, e0]))]
  rw [seq_nx (ρ' := [some (scr ns), some (.int base), some (.lst ops), some (.int most), some (.int m0), some (.lst its), none, none, none, none, none, none]) (set_nx (by simp [f1, aCons, fVar, aNil, ei]))]
  rw [seq_nx (ρ' := [some (scr ns), some (.int base), some (.lst ops), some (.int most), some (.int m0), some (.lst its), some item, none, none, none, none, none]) (set_nx (by
    have b1 : addD (.int base) (.int 1) = some (.int (base + 1)) := rfl
    simp [f1, aCons, fVar, aNil, f2, fSl, sliceD, oSome, oNone, fC, a1, b1, e1, ep]))]
  rw [seq_nx (ρ' := [some (scr ns), some (.int base), some (.lst ops), some (.int most), some (.int m0), some (.lst its), some item, some oth, none, none, none, none]) (set_nx (by
    have b1 : addD (.int base) (.int 2) = some (.int (base + 2)) := rfl
    simp [f1, aCons, fVar, aNil, f2, fC, a2, b1, e2, eo]))]
  rw [seq_nx (ρ' := [some (scr ns), some (.int base), some (.lst ops), some (.int most), some (.int m0), some (.lst its), some item, some (othOf oth), none, none, none, none]) (by
    rcases item_isi hoth with ⟨z1, z2⟩ | ⟨z1, z2, _⟩ <;> simp [dq4, sIf, fT, fIsi, fVar, z1, z2, sNil, sSet, fC])]
  rw [seq_nx (ρ' := [some (scr ns), some (.int base), some (.lst ops), some (.int most), some (.int m0), some (.lst its), some item, some (othOf oth), some (.lst kinds), none, none, none]) (set_nx (by rfl))]
  rw [seq_nx (ρ' := [some (scr ns), some (.int base), some (.lst ops), some (.int most), some (.int m0), some (.lst its), some item, some (othOf oth), some (.lst kinds), some (.str k), none, none]) (set_nx (by simp [f2, fVar, fC, modD, intD, ek']))]
end K02
set_option maxRecDepth 100000
set_option maxHeartbeats 1000000
namespace K02
open PySem L2 DL
theorem deed_ok (ns : List Int) {base most : Int} {ops : List D} (h : ∀ o ∈ ops, OpOk o) (hl : ops.length ≤ 100) (hm1 : 1 ≤ most) (hm16 : most ≤ 16) : ∃ d, g_Ldeed [scr ns, .int base, .lst ops, .int most] = some d ∧ DG d := by
  obtain ⟨m0, its, item, other, k, p0, hi0, hits, hitem, hoth, hk, hA⟩ := deed_A ns (base := base) (most := most) h hl
  have fin : ∀ d, dqB [some (scr ns), some (.int base), some (.lst ops), some (.int most), some (.int m0), some (.lst its), some item, some other, some (.lst kinds), some (.str k), none, none] = some (.rt d) → g_Ldeed [scr ns, .int base, .lst ops, .int most] = some d := fun d e => by
    unfold g_Ldeed runQ
    rw [if_pos (by rfl)]
    show (match q_Ldeed [some (scr ns), some (.int base), some (.lst ops), some (.int most), none, none, none, none, none, none, none, none] with | some (.rt d) => some d | some (.nx _) => some .non | none => none) = _
    rw [hA, e]
  clear hA
  obtain ⟨m1, e1, _, _⟩ := mix_ok ns (k := base + 1)
  obtain ⟨m3, e3, _, _⟩ := mix_ok ns (k := base + 3)
  obtain ⟨m4, e4, _, _⟩ := mix_ok ns (k := base + 4)
  obtain ⟨m5, e5, _, _⟩ := mix_ok ns (k := base + 5)
  obtain ⟨p1, ep1, mp1⟩ := pick_ok (n := m1) hi0
  obtain ⟨p3, ep3, mp3⟩ := pick_ok (n := m3) hi0
  have np1 := hits _ mp1
  have np3 := hits _ mp3
  obtain ⟨ss, es, hs0, hss⟩ := signs_ok h hl
  obtain ⟨sg, eg, mg⟩ := pick_ok (n := m4) hs0
  have hsg := hss _ mg
  obtain ⟨tx, et, ht1, ht0, ht2⟩ := text_ok (n := m5) hm1 hm16
  unfold KindOk at hk
  rcases hk with rfl | rfl | rfl | rfl | rfl | rfl | rfl | rfl
  · refine ⟨.tup [.str "put", p1, other], fin _ (by simp [dqB, dq7, dq8, dq9, dq10, dq11, dq12, dq13, dq14, dq15, runQ, sRet, sSeq, sIf, sSet, sNil, fAndV, fOrV, fNotV, fAnd, fOr, fNot, fT, fIsi, fVar, isiD, f2, ltD, leB, gtD, geD, neD, intD0, intD, f1, aCons, aNil, absD, fC, powD, fChain, addD, subD, mulD, modD, fdivD, lenD, ixD, atI, ixN, fTup, fLst, fSl, sliceD, oNone, oSome, isNonD, notNonD, fIf, cutL, HT.sIx, List.getElem?_cons_zero, List.getElem?_cons_succ, sIf, eq_str', in2, kn_put_move, kn_move_put, kn_put_drop, kn_drop_put, kn_put_write, kn_write_put, kn_put_cut, kn_cut_put, kn_put_set, kn_set_put, kn_put_undo, kn_undo_put, kn_put_redo, kn_redo_put, e1, ep1]), .put np1 hoth⟩
  · refine ⟨.tup [.str "move", item, p3, other], fin _ (by simp [dqB, dq7, dq8, dq9, dq10, dq11, dq12, dq13, dq14, dq15, runQ, sRet, sSeq, sIf, sSet, sNil, fAndV, fOrV, fNotV, fAnd, fOr, fNot, fT, fIsi, fVar, isiD, f2, ltD, leB, gtD, geD, neD, intD0, intD, f1, aCons, aNil, absD, fC, powD, fChain, addD, subD, mulD, modD, fdivD, lenD, ixD, atI, ixN, fTup, fLst, fSl, sliceD, oNone, oSome, isNonD, notNonD, fIf, cutL, HT.sIx, List.getElem?_cons_zero, List.getElem?_cons_succ, sIf, eq_str', in2, kn_move_put, kn_put_move, kn_move_drop, kn_drop_move, kn_move_write, kn_write_move, kn_move_cut, kn_cut_move, kn_move_set, kn_set_move, kn_move_undo, kn_undo_move, kn_move_redo, kn_redo_move, e3, ep3]), .move hitem np3 hoth⟩
  · refine ⟨.tup [.str "write", item, sg, .str tx], fin _ (by simp [dqB, dq7, dq8, dq9, dq10, dq11, dq12, dq13, dq14, dq15, runQ, sRet, sSeq, sIf, sSet, sNil, fAndV, fOrV, fNotV, fAnd, fOr, fNot, fT, fIsi, fVar, isiD, f2, ltD, leB, gtD, geD, neD, intD0, intD, f1, aCons, aNil, absD, fC, powD, fChain, addD, subD, mulD, modD, fdivD, lenD, ixD, atI, ixN, fTup, fLst, fSl, sliceD, oNone, oSome, isNonD, notNonD, fIf, cutL, HT.sIx, List.getElem?_cons_zero, List.getElem?_cons_succ, sIf, eq_str', in2, kn_write_put, kn_put_write, kn_write_move, kn_move_write, kn_write_drop, kn_drop_write, kn_write_cut, kn_cut_write, kn_write_set, kn_set_write, kn_write_undo, kn_undo_write, kn_write_redo, kn_redo_write, es, e4, eg, e5, et]), .write hitem hsg ht1 ht0 ht2⟩
  · -- cut
    rcases hsg with rfl | ⟨a, b, c, rfl, h1, h2, h3, h4, c0, c15⟩
    · exact ⟨.tup [.str "set", item, .int (m0 / 12 % 4), .int (m0 / 48 % 2000 - 1000)], fin _ (by simp [dqB, dq7, dq8, dq9, dq10, dq11, dq12, dq13, dq14, dq15, runQ, sRet, sSeq, sIf, sSet, sNil, fAndV, fOrV, fNotV, fAnd, fOr, fNot, fT, fIsi, fVar, isiD, f2, ltD, leB, gtD, geD, neD, intD0, intD, f1, aCons, aNil, absD, fC, powD, fChain, addD, subD, mulD, modD, fdivD, lenD, ixD, atI, ixN, fTup, fLst, fSl, sliceD, oNone, oSome, isNonD, notNonD, isNon, fIf, cutL, HT.sIx, List.getElem?_cons_zero, List.getElem?_cons_succ, sIf, eq_str', in2, kn_cut_put, kn_put_cut, kn_cut_move, kn_move_cut, kn_cut_drop, kn_drop_cut, kn_cut_write, kn_write_cut, kn_cut_set, kn_set_cut, kn_cut_undo, kn_undo_cut, kn_cut_redo, kn_redo_cut, es, e4, eg]), .set hitem (by omega) (by omega) (by omega)⟩
    · have hc : 0 < 16 - c := by omega
      have hc' : c < 16 := by omega
      have q1 : 0 ≤ m0 / 12 % (16 - c) := Int.emod_nonneg _ (by omega)
      have q2 : m0 / 12 % (16 - c) < 16 - c := Int.emod_lt_of_pos _ hc
      exact ⟨.tup [.str "cut", item, .tup [.int a, .int b, .int c], .int (1 + m0 / 12 % (16 - c))], fin _ (by simp [dqB, dq7, dq8, dq9, dq10, dq11, dq12, dq13, dq14, dq15, runQ, sRet, sSeq, sIf, sSet, sNil, fAndV, fOrV, fNotV, fAnd, fOr, fNot, fT, fIsi, fVar, isiD, f2, ltD, leB, gtD, geD, neD, intD0, intD, f1, aCons, aNil, absD, fC, powD, fChain, addD, subD, mulD, modD, fdivD, lenD, ixD, atI, ixN, fTup, fLst, fSl, sliceD, oNone, oSome, isNonD, notNonD, isNon, fIf, cutL, HT.sIx, List.getElem?_cons_zero, List.getElem?_cons_succ, sIf, eq_str', in2, kn_cut_put, kn_put_cut, kn_cut_move, kn_move_cut, kn_cut_drop, kn_drop_cut, kn_cut_write, kn_write_cut, kn_cut_set, kn_set_cut, kn_cut_undo, kn_undo_cut, kn_cut_redo, kn_redo_cut, es, e4, eg, hc, hc']), .cut hitem ⟨a, b, c, rfl, h1, h2, h3, h4, c0, c15⟩ (by omega) (by omega)⟩
  · exact ⟨.tup [.str "set", item, .int (m0 / 12 % 4), .int (m0 / 48 % 2000 - 1000)], fin _ (by simp [dqB, dq7, dq8, dq9, dq10, dq11, dq12, dq13, dq14, dq15, runQ, sRet, sSeq, sIf, sSet, sNil, fAndV, fOrV, fNotV, fAnd, fOr, fNot, fT, fIsi, fVar, isiD, f2, ltD, leB, gtD, geD, neD, intD0, intD, f1, aCons, aNil, absD, fC, powD, fChain, addD, subD, mulD, modD, fdivD, lenD, ixD, atI, ixN, fTup, fLst, fSl, sliceD, oNone, oSome, isNonD, notNonD, fIf, cutL, HT.sIx, List.getElem?_cons_zero, List.getElem?_cons_succ, sIf, eq_str', in2, kn_set_put, kn_put_set, kn_set_move, kn_move_set, kn_set_drop, kn_drop_set, kn_set_write, kn_write_set, kn_set_cut, kn_cut_set, kn_set_undo, kn_undo_set, kn_set_redo, kn_redo_set, es, e4, eg]), .set hitem (by omega) (by omega) (by omega)⟩
  · -- undo
    obtain ⟨ys, e, l, hr⟩ := comp_inv (ρ := [none]) (bnd := bName 0) (ft := fun _ => some true) (fe := fTup (aCons (f2 ixD (fVar 0) (fC (.int 0))) (aCons (f2 ixD (fVar 0) (fC (.int 1))) aNil)))
      (fun y => NameG y) ops (by
        intro o ho
        obtain ⟨h', n, tm, d, rfl, b1, b2, b3, b4, _⟩ := h o ho
        refine ⟨_, true, rfl, rfl, fun _ => ⟨_, by simp [runQ, sRet, sSeq, sIf, sSet, sNil, fAndV, fOrV, fNotV, fAnd, fOr, fNot, fT, fIsi, fVar, isiD, f2, ltD, leB, gtD, geD, neD, intD0, intD, f1, aCons, aNil, absD, fC, powD, fChain, addD, subD, mulD, modD, fdivD, lenD, ixD, atI, ixN, fTup, fLst, fSl, sliceD, oNone, oSome, isNonD, notNonD, isNon, fIf, cutL, HT.sIx, List.getElem?_cons_zero, List.getElem?_cons_succ], ⟨_, _, rfl, b1, b2, b3, b4⟩⟩⟩)
    have hc : fComp 1 [] (iLst (fVar 2)) (bName 0) (fun _ => some true) (fTup (aCons (f2 ixD (fVar 0) (fC (.int 0))) (aCons (f2 ixD (fVar 0) (fC (.int 1))) aNil))) [some (scr ns), some (.int base), some (.lst ops), some (.int most), some (.int m0), some (.lst its), some item, some other, some (.lst kinds), some (.str "undo"), some sg, none] = some (.lst ys) := by
      show (if ops.length ≤ big then Option.map D.lst (compF _ _ _ [none] ops) else none) = _
      rw [if_pos (by unfold big; omega), e]; rfl
    have a1 : addD (.lst ys) (.lst [.tup [.int 0, .int (1 + m0 % 5)]]) = some (.lst (ys ++ [.tup [.int 0, .int (1 + m0 % 5)]])) := by
      show (if ys.length + 1 ≤ big then _ else none) = _
      rw [if_pos (by unfold big; omega)]
    obtain ⟨nm, en, mn⟩ := pick_ok (n := m1) (xs := ys ++ [.tup [.int 0, .int (1 + m0 % 5)]]) (by simp)
    have nn : NameG nm := by
      rcases List.mem_append.mp mn with z | z
      · exact hr _ z
      · simp at z; subst z
        exact ⟨_, _, rfl, by decide, by decide, by omega, by omega⟩
    have b1 : addD (.int base) (.int 1) = some (.int (base + 1)) := rfl
    have b4 : addD (.int base) (.int 4) = some (.int (base + 4)) := rfl
    have b5 : addD (.int 1) (.int (m0 % 5)) = some (.int (1 + m0 % 5)) := rfl
    exact ⟨.tup [.str "undo", nm], fin _ (by simp [dqB, dq7, dq8, dq9, dq10, dq11, dq12, dq13, dq14, dq15, runQ, sRet, sSeq, sIf, sSet, sNil, fAndV, fOrV, fNotV, fAnd, fOr, fNot, fT, fIsi, fVar, isiD, f2, ltD, leB, gtD, geD, neD, intD0, intD, f1, aCons, aNil, absD, fC, powD, fChain, subD, mulD, modD, fdivD, lenD, ixD, atI, ixN, fTup, fLst, fSl, sliceD, oNone, oSome, isNonD, notNonD, fIf, cutL, HT.sIx, List.getElem?_cons_zero, List.getElem?_cons_succ, sIf, eq_str', in2, kn_undo_put, kn_put_undo, kn_undo_move, kn_move_undo, kn_undo_drop, kn_drop_undo, kn_undo_write, kn_write_undo, kn_undo_cut, kn_cut_undo, kn_undo_set, kn_set_undo, kn_undo_redo, kn_redo_undo, es, e4, eg, e1, hc, a1, b1, b4, b5, en]), .undo nn⟩
  · -- redo
    obtain ⟨ys, e, l, hr⟩ := comp_inv (ρ := [none]) (bnd := bName 0) (ft := fun _ => some true) (fe := fTup (aCons (f2 ixD (fVar 0) (fC (.int 0))) (aCons (f2 ixD (fVar 0) (fC (.int 1))) aNil)))
      (fun y => NameG y) ops (by
        intro o ho
        obtain ⟨h', n, tm, d, rfl, b1, b2, b3, b4, _⟩ := h o ho
        refine ⟨_, true, rfl, rfl, fun _ => ⟨_, by simp [runQ, sRet, sSeq, sIf, sSet, sNil, fAndV, fOrV, fNotV, fAnd, fOr, fNot, fT, fIsi, fVar, isiD, f2, ltD, leB, gtD, geD, neD, intD0, intD, f1, aCons, aNil, absD, fC, powD, fChain, addD, subD, mulD, modD, fdivD, lenD, ixD, atI, ixN, fTup, fLst, fSl, sliceD, oNone, oSome, isNonD, notNonD, isNon, fIf, cutL, HT.sIx, List.getElem?_cons_zero, List.getElem?_cons_succ], ⟨_, _, rfl, b1, b2, b3, b4⟩⟩⟩)
    have hc : fComp 1 [] (iLst (fVar 2)) (bName 0) (fun _ => some true) (fTup (aCons (f2 ixD (fVar 0) (fC (.int 0))) (aCons (f2 ixD (fVar 0) (fC (.int 1))) aNil))) [some (scr ns), some (.int base), some (.lst ops), some (.int most), some (.int m0), some (.lst its), some item, some other, some (.lst kinds), some (.str "redo"), some sg, none] = some (.lst ys) := by
      show (if ops.length ≤ big then Option.map D.lst (compF _ _ _ [none] ops) else none) = _
      rw [if_pos (by unfold big; omega), e]; rfl
    have a1 : addD (.lst ys) (.lst [.tup [.int 0, .int (1 + m0 % 5)]]) = some (.lst (ys ++ [.tup [.int 0, .int (1 + m0 % 5)]])) := by
      show (if ys.length + 1 ≤ big then _ else none) = _
      rw [if_pos (by unfold big; omega)]
    obtain ⟨nm, en, mn⟩ := pick_ok (n := m1) (xs := ys ++ [.tup [.int 0, .int (1 + m0 % 5)]]) (by simp)
    have nn : NameG nm := by
      rcases List.mem_append.mp mn with z | z
      · exact hr _ z
      · simp at z; subst z
        exact ⟨_, _, rfl, by decide, by decide, by omega, by omega⟩
    have b1 : addD (.int base) (.int 1) = some (.int (base + 1)) := rfl
    have b4 : addD (.int base) (.int 4) = some (.int (base + 4)) := rfl
    have b5 : addD (.int 1) (.int (m0 % 5)) = some (.int (1 + m0 % 5)) := rfl
    exact ⟨.tup [.str "redo", nm], fin _ (by simp [dqB, dq7, dq8, dq9, dq10, dq11, dq12, dq13, dq14, dq15, runQ, sRet, sSeq, sIf, sSet, sNil, fAndV, fOrV, fNotV, fAnd, fOr, fNot, fT, fIsi, fVar, isiD, f2, ltD, leB, gtD, geD, neD, intD0, intD, f1, aCons, aNil, absD, fC, powD, fChain, subD, mulD, modD, fdivD, lenD, ixD, atI, ixN, fTup, fLst, fSl, sliceD, oNone, oSome, isNonD, notNonD, fIf, cutL, HT.sIx, List.getElem?_cons_zero, List.getElem?_cons_succ, sIf, eq_str', in2, kn_redo_put, kn_put_redo, kn_redo_move, kn_move_redo, kn_redo_drop, kn_drop_redo, kn_redo_write, kn_write_redo, kn_redo_cut, kn_cut_redo, kn_redo_set, kn_set_redo, kn_redo_undo, kn_undo_redo, es, e4, eg, e1, hc, a1, b1, b4, b5, en]), .redo nn⟩
  · refine ⟨.tup [.str "drop", item], fin _ (by simp [dqB, dq7, dq8, dq9, dq10, dq11, dq12, dq13, dq14, dq15, runQ, sRet, sSeq, sIf, sSet, sNil, fAndV, fOrV, fNotV, fAnd, fOr, fNot, fT, fIsi, fVar, isiD, f2, ltD, leB, gtD, geD, neD, intD0, intD, f1, aCons, aNil, absD, fC, powD, fChain, addD, subD, mulD, modD, fdivD, lenD, ixD, atI, ixN, fTup, fLst, fSl, sliceD, oNone, oSome, isNonD, notNonD, fIf, cutL, HT.sIx, List.getElem?_cons_zero, List.getElem?_cons_succ, sIf, eq_str', in2, kn_drop_put, kn_put_drop, kn_drop_move, kn_move_drop, kn_drop_write, kn_write_drop, kn_drop_cut, kn_cut_drop, kn_drop_set, kn_set_drop, kn_drop_undo, kn_undo_drop, kn_drop_redo, kn_redo_drop, e1]), .drop hitem⟩
end K02
set_option maxRecDepth 100000
set_option maxHeartbeats 1000000
namespace K02
open PySem L2 DL
theorem item_noLst {d : D} (h : ItemG d) : noLst d = true := by
  rcases h with rfl | rfl | ⟨a, b, rfl, _⟩ <;> simp [noLst, noLstL]
theorem sib_noLst {d : D} (h : SibG d) : noLst d = true := by
  rcases h with rfl | ⟨a, b, rfl, _⟩ <;> simp [noLst, noLstL]
theorem name_noLst {d : D} (h : NameG d) : noLst d = true := by
  obtain ⟨a, b, rfl, _⟩ := h
  simp [noLst, noLstL]
theorem sign_noLst {d : D} (h : SignG d) : noLst d = true := by
  rcases h with rfl | ⟨a, b, c, rfl, _⟩ <;> simp [noLst, noLstL]
theorem deed_noLst {d : D} (h : DG d) : noLst d = true := by
  cases h with
  | put h1 h2 => simp [noLst, noLstL, item_noLst h1, sib_noLst h2]
  | move h1 h2 h3 => simp [noLst, noLstL, item_noLst h1, item_noLst h2, sib_noLst h3]
  | drop h1 => simp [noLst, noLstL, item_noLst h1]
  | write h1 h2 => simp [noLst, noLstL, item_noLst h1, sign_noLst h2]
  | cut h1 => simp [noLst, noLstL, item_noLst h1]
  | set h1 => simp [noLst, noLstL, item_noLst h1]
  | undo h1 => simp [noLst, noLstL, name_noLst h1]
  | redo h1 => simp [noLst, noLstL, name_noLst h1]
abbrev wBody : DEnv → Option Fl := (sSeq (sSet 7 (f1 g_Lmix (aCons (fVar 0) (aCons (f2 addD (fVar 1) (f2 mulD (fC (.int 7)) (fVar 6))) aNil))))
  (sSeq (sSet 8 (f2 modD (fVar 7) (fC (.int 3))))
  (sSeq (sPut 4 (fVar 8) (f2 addD (fIxO 4 (fVar 8)) (fC (.int 1))))
  (sSeq (sPut 5 (fVar 8) (f2 addD (f2 addD (fIxO 5 (fVar 8)) (fC (.int 1))) (f2 modD (f2 fdivD (fVar 7) (fC (.int 3))) (fC (.int 3)))))
  (sSeq (sSet 9 (fFull (f1 g_Ldeed (aCons (fVar 0) (aCons (f2 addD (f2 addD (fVar 1) (f2 mulD (fC (.int 7)) (fVar 6))) (fC (.int 1))) (aCons (fVar 3) (aCons (fC (.int 5)) aNil)))))))
  (sApp 3 (fTup (aCons (f2 ixD (fC (.lst [(.int 0), (.int 5), (.int 15)])) (fVar 8)) (aCons (fIxO 4 (fVar 8)) (aCons (fIxO 5 (fVar 8)) (aCons (fVar 9) aNil)))))))))))
theorem world_ok (ns : List Int) (base : Int) (N : Nat) (hN : N ≤ 100) : ∃ ops, g_Lworld [scr ns, .int base, .int N] = some (.lst ops) ∧ ops.length = N ∧ ∀ o ∈ ops, OpOk o := by
  let P : Nat → DEnv → Prop := fun i ρ => ∃ ops c0 c1 c2 t0 t1 t2 x6 x7 x8 x9, ρ = [some (scr ns), some (.int base), some (.int N), some (.lst ops), some (.lst [.int c0, .int c1, .int c2]), some (.lst [.int t0, .int t1, .int t2]), x6, x7, x8, x9] ∧ ops.length = i ∧ (∀ o ∈ ops, OpOk o) ∧
    (0 ≤ c0 ∧ c0 ≤ i) ∧ (0 ≤ c1 ∧ c1 ≤ i) ∧ (0 ≤ c2 ∧ c2 ≤ i)
  obtain ⟨ρ', e, ops, c0, c1, c2, t0, t1, t2, x6, x7, x8, x9, rfl, hl, ho, _⟩ := loop_inv (bnd := bSet 6) (q := wBody) P (rangeD N) 0
    [some (scr ns), some (.int base), some (.int N), some (.lst []), some (.lst [.int 0, .int 0, .int 0]), some (.lst [.int 0, .int 0, .int 0]), none, none, none, none]
    ⟨[], 0, 0, 0, 0, 0, 0, none, none, none, none, rfl, rfl, fun o h => (by cases h), by simp, by simp, by simp⟩ (by
      rintro j d ρ hd ⟨ops, c0, c1, c2, t0, t1, t2, x6, x7, x8, x9, rfl, hl, ho, h0, h1, h2⟩
      unfold rangeD at hd
      rw [List.getElem?_map] at hd
      obtain ⟨i', hi', rfl⟩ := Option.map_eq_some_iff.mp hd
      obtain ⟨hlt, he⟩ := List.getElem?_eq_some_iff.mp hi'
      rw [List.getElem_range] at he
      subst he
      rw [List.length_range] at hlt
      obtain ⟨m, em, m0, _⟩ := mix_ok ns (k := base + 7 * (j : Nat))
      obtain ⟨dd, ed, hd⟩ := deed_ok ns (base := base + 7 * (j : Nat) + 1) (most := 5) ho (by omega) (by decide) (by decide)
      have nd := deed_noLst hd
      have hb : ops.length < big := by unfold big; omega
      have hat : m % 3 = 0 ∨ m % 3 = 1 ∨ m % 3 = 2 := by omega
      rcases hat with z | z | z
      · refine ⟨_, [some (scr ns), some (.int base), some (.int N), some (.lst (ops ++ [.tup [.int 0, .int (c0 + 1), .int (t0 + 1 + m / 3 % 3), dd]])), some (.lst [.int (c0 + 1), .int c1, .int c2]), some (.lst [.int (t0 + 1 + m / 3 % 3), .int t1, .int t2]), some (.int (j : Nat)), some (.int m), some (.int 0), some dd], rfl,
          by simp [wBody, sPut, fIxO, sApp, fFull, runQ, sRet, sSeq, sIf, sSet, sNil, fAndV, fOrV, fNotV, fAnd, fOr, fNot, fT, fIsi, fVar, isiD, f2, ltD, leB, gtD, geD, neD, intD0, intD, f1, aCons, aNil, absD, fC, powD, fChain, addD, subD, mulD, modD, fdivD, lenD, ixD, atI, ixN, fTup, fLst, fSl, sliceD, oNone, oSome, isNonD, notNonD, isNon, fIf, cutL, HT.sIx, List.getElem?_cons_zero, List.getElem?_cons_succ, mulOk, em, ed, nd, z, hb], _, _, _, _, _, _, _, _, _, _, _, rfl, by simp; omega, ?_, by omega, by omega, by omega⟩
        intro o hh
        rcases List.mem_append.mp hh with hh | hh
        · exact ho o hh
        · simp at hh; subst hh
          exact ⟨_, _, _, _, rfl, by decide, by decide, by omega, by omega, hd⟩
      · refine ⟨_, [some (scr ns), some (.int base), some (.int N), some (.lst (ops ++ [.tup [.int 5, .int (c1 + 1), .int (t1 + 1 + m / 3 % 3), dd]])), some (.lst [.int c0, .int (c1 + 1), .int c2]), some (.lst [.int t0, .int (t1 + 1 + m / 3 % 3), .int t2]), some (.int (j : Nat)), some (.int m), some (.int 1), some dd], rfl,
          by simp [wBody, sPut, fIxO, sApp, fFull, runQ, sRet, sSeq, sIf, sSet, sNil, fAndV, fOrV, fNotV, fAnd, fOr, fNot, fT, fIsi, fVar, isiD, f2, ltD, leB, gtD, geD, neD, intD0, intD, f1, aCons, aNil, absD, fC, powD, fChain, addD, subD, mulD, modD, fdivD, lenD, ixD, atI, ixN, fTup, fLst, fSl, sliceD, oNone, oSome, isNonD, notNonD, isNon, fIf, cutL, HT.sIx, List.getElem?_cons_zero, List.getElem?_cons_succ, mulOk, em, ed, nd, z, hb], _, _, _, _, _, _, _, _, _, _, _, rfl, by simp; omega, ?_, by omega, by omega, by omega⟩
        intro o hh
        rcases List.mem_append.mp hh with hh | hh
        · exact ho o hh
        · simp at hh; subst hh
          exact ⟨_, _, _, _, rfl, by decide, by decide, by omega, by omega, hd⟩
      · refine ⟨_, [some (scr ns), some (.int base), some (.int N), some (.lst (ops ++ [.tup [.int 15, .int (c2 + 1), .int (t2 + 1 + m / 3 % 3), dd]])), some (.lst [.int c0, .int c1, .int (c2 + 1)]), some (.lst [.int t0, .int t1, .int (t2 + 1 + m / 3 % 3)]), some (.int (j : Nat)), some (.int m), some (.int 2), some dd], rfl,
          by simp [wBody, sPut, fIxO, sApp, fFull, runQ, sRet, sSeq, sIf, sSet, sNil, fAndV, fOrV, fNotV, fAnd, fOr, fNot, fT, fIsi, fVar, isiD, f2, ltD, leB, gtD, geD, neD, intD0, intD, f1, aCons, aNil, absD, fC, powD, fChain, addD, subD, mulD, modD, fdivD, lenD, ixD, atI, ixN, fTup, fLst, fSl, sliceD, oNone, oSome, isNonD, notNonD, isNon, fIf, cutL, HT.sIx, List.getElem?_cons_zero, List.getElem?_cons_succ, mulOk, em, ed, nd, z, hb], _, _, _, _, _, _, _, _, _, _, _, rfl, by simp; omega, ?_, by omega, by omega, by omega⟩
        intro o hh
        rcases List.mem_append.mp hh with hh | hh
        · exact ho o hh
        · simp at hh; subst hh
          exact ⟨_, _, _, _, rfl, by decide, by decide, by omega, by omega, hd⟩)
  refine ⟨ops, ?_, by simpa [rangeD] using hl, ho⟩
  have hr : -1000 ≤ (N : Int) ∧ (N : Int) ≤ 100000 := by omega
  have hf : sFor (iRng (fVar 2)) (bSet 6) wBody [some (scr ns), some (.int base), some (.int N), some (.lst []), some (.lst [.int 0, .int 0, .int 0]), some (.lst [.int 0, .int 0, .int 0]), none, none, none, none] = some (.nx [some (scr ns), some (.int base), some (.int N), some (.lst ops), some (.lst [.int c0, .int c1, .int c2]), some (.lst [.int t0, .int t1, .int t2]), x6, x7, x8, x9]) := by
    have hi : iRng (fVar 2) [some (scr ns), some (.int base), some (.int N), some (.lst []), some (.lst [.int 0, .int 0, .int 0]), some (.lst [.int 0, .int 0, .int 0]), none, none, none, none] = some (rangeD N) := by
      simp [iRng, fVar, hr]
    unfold sFor
    rw [hi]
    exact e
  have hq : q_Lworld [some (scr ns), some (.int base), some (.int N), none, none, none, none, none, none, none] = some (.rt (.lst ops)) := by
    show sSeq (sNew 3 aNil) (sSeq (sNew 4 (aCons (fC (.int 0)) (aCons (fC (.int 0)) (aCons (fC (.int 0)) aNil)))) (sSeq (sNew 5 (aCons (fC (.int 0)) (aCons (fC (.int 0)) (aCons (fC (.int 0)) aNil)))) (sSeq (sFor (iRng (fVar 2)) (bSet 6) wBody) (sRet (fVar 3))))) _ = _
    rw [seq_nx (ρ' := [some (scr ns), some (.int base), some (.int N), some (.lst []), none, none, none, none, none, none]) rfl]
    rw [seq_nx (ρ' := [some (scr ns), some (.int base), some (.int N), some (.lst []), some (.lst [.int 0, .int 0, .int 0]), none, none, none, none, none]) rfl]
    rw [seq_nx (ρ' := [some (scr ns), some (.int base), some (.int N), some (.lst []), some (.lst [.int 0, .int 0, .int 0]), some (.lst [.int 0, .int 0, .int 0]), none, none, none, none]) rfl]
    rw [seq_nx hf]
    rfl
  unfold g_Lworld runQ
  rw [if_pos (by rfl)]
  show (match q_Lworld [some (scr ns), some (.int base), some (.int N), none, none, none, none, none, none, none] with | some (.rt d) => some d | some (.nx _) => some .non | none => none) = _
  rw [hq]
end K02
set_option maxRecDepth 100000
set_option maxHeartbeats 1000000
namespace K02
open PySem L2 DL TX
inductive PG : D → Prop
  | non : PG .non
  | root : PG (.str "root")
  | bin : PG (.str "bin")
  | int {i : Int} : i.natAbs < 10 ^ 61 → PG (.int i)
  | two {a b : Int} : a.natAbs < 10 ^ 61 → b.natAbs < 10 ^ 61 → PG (.tup [.int a, .int b])
  | three {a b c : Int} : a.natAbs < 10 ^ 61 → b.natAbs < 10 ^ 61 → c.natAbs < 10 ^ 61 → PG (.tup [.int a, .int b, .int c])
theorem name_PG {x : D} (h : NameG x) : PG x := by
  obtain ⟨a, b, rfl, h⟩ := h
  exact .two (by omega) (by omega)
theorem item_PG {x : D} (h : ItemG x) : PG x := by
  rcases h with rfl | rfl | h
  · exact .root
  · exact .bin
  · exact name_PG h
theorem sib_PG {x : D} (h : SibG x) : PG x := by
  rcases h with rfl | h
  · exact .non
  · exact name_PG h
theorem signT_PG {x : D} (h : SignT x) : PG x := by
  obtain ⟨a, b, c, rfl, h⟩ := h
  exact .three (by omega) (by omega) (by omega)
theorem sign_PG {x : D} (h : SignG x) : PG x := by
  rcases h with rfl | h
  · exact .non
  · exact signT_PG h
def intsC : List D → List (List Nat)
  | .int i :: r => intC i :: intsC r
  | _ => []
def wordC : D → List Nat
  | .non => [45]
  | .str s => s.cps.toList
  | .int i => intC i
  | .tup ds => joinL 46 (intsC ds)
  | _ => []
theorem mk_cps (s : Str) : mk s.cps.toList = s := by unfold mk; simp
abbrev W (w : List Nat) : D := .str (mk w)
theorem comp_map {fe : DEnv → Option D} {F : D → D} : ∀ (ds : List D), (∀ d ∈ ds, fe [some d] = some (F d)) → compF (bName 0) (fun _ => some true) fe [none] ds = some (ds.map F)
  | [], _ => rfl
  | d :: ds, h => by
    have ih := comp_map ds fun x hx => h x (List.mem_cons_of_mem _ hx)
    have h1 := h d List.mem_cons_self
    simp only [compF, ih, List.map_cons]
    simp [bName, h1]
theorem strsD_W : ∀ (ws : List (List Nat)), strsD (ws.map W) = some (ws.map mk)
  | [] => rfl
  | w :: ws => by
    rw [List.map_cons, List.map_cons]
    show (strsD (ws.map W)).map _ = _
    rw [strsD_W ws]; rfl
theorem len_mk (w : List Nat) : (mk w).length = w.length := by simp [mk, Str.length]
theorem joinD_W {c : Nat} {ws : List (List Nat)} (h : (ws.map List.length).sum + ws.length ≤ big) : joinD (.str ⟨#[c]⟩) (.lst (ws.map W)) = some (W (joinL c ws)) := by
  show (strsD (ws.map W)).bind (fun ys => if (ys.map (·.length)).sum + ys.length * (⟨#[c]⟩ : Str).length ≤ big then some (D.str (Txt.join ⟨#[c]⟩ ys)) else none) = _
  rw [strsD_W, Option.bind_some, List.map_map, List.length_map]
  have e : (List.map ((fun x => x.length) ∘ mk) ws) = ws.map List.length := List.map_congr_left fun w _ => len_mk w
  rw [e, if_pos (by show _ + ws.length * 1 ≤ big; omega), join_mk]
theorem log_ok {i : Int} (h : i.natAbs < 10 ^ 61) : i.natAbs.log2 < 1920 := by
  by_cases h0 : i.natAbs = 0
  · rw [h0]; decide
  · rw [Nat.log2_lt h0]
    exact Nat.lt_of_lt_of_le h (by decide +kernel)
theorem str_int {i : Int} (h : i.natAbs < 10 ^ 61) : strD [.int i] = some (W (intC i)) := by
  show (if i.natAbs.log2 < 1920 then some (D.str (toString i : String)) else none) = _
  rw [if_pos (log_ok h), W, mk_intC]
theorem dot_eq : (Str.ofString ".") = ⟨#[46]⟩ := by decide +kernel
theorem blank_eq : (Str.ofString " ") = ⟨#[32]⟩ := by decide +kernel
theorem minus_eq : (Str.ofString "-") = mk [45] := by decide +kernel
theorem word_ok {x : D} (h : PG x ∨ ∃ s, x = .str s) : g_word_of [x] = some (W (wordC x)) ∧ g_Lword [x] = some (W (wordC x)) := by
  have key : ∀ {is : List Int}, is.length ≤ 3 → (∀ i ∈ is, i.natAbs < 10 ^ 61) → fJoin (fC (.str ".")) (fComp 1 [] (iTup (fVar 0)) (bName 0) (fun _ => some true) (f1 strD (aCons (fVar 0) aNil))) [some (.tup (is.map D.int))] = some (W (joinL 46 (is.map intC))) := by
    intro is hl hb
    have hc := comp_map (fe := f1 strD (aCons (fVar 0) aNil)) (F := fun d => match d with | .int i => W (intC i) | d => d) (is.map D.int) (by
      intro d hd
      obtain ⟨i, hi, rfl⟩ := List.mem_map.mp hd
      simp [f1, aCons, fVar, aNil, str_int (hb i hi)])
    rw [List.map_map] at hc
    have hcomp : fComp 1 [] (iTup (fVar 0)) (bName 0) (fun _ => some true) (f1 strD (aCons (fVar 0) aNil)) [some (.tup (is.map D.int))] = some (.lst ((is.map intC).map W)) := by
      show (if (is.map D.int).length ≤ big then Option.map D.lst (compF _ _ _ [none] (is.map D.int)) else none) = _
      rw [if_pos (by rw [List.length_map]; unfold big; omega), hc, List.map_map]; rfl
    have hs : ((is.map intC).map List.length).sum + (is.map intC).length ≤ big := by
      have : ∀ (is : List Int), (∀ i ∈ is, i.natAbs < 10 ^ 61) → ((is.map intC).map List.length).sum ≤ 62 * is.length := by
        intro is
        induction is with
        | nil => intro _; simp
        | cons i is ih =>
          intro hb
          have h1 := intC_len (hb i List.mem_cons_self)
          have h2 := ih fun j hj => hb j (List.mem_cons_of_mem _ hj)
          simp only [List.map_cons, List.sum_cons, List.length_cons]
          omega
      have h1 := this is hb
      rw [List.length_map]
      unfold big
      omega
    unfold fJoin
    rw [hcomp]
    show joinD (.str ".") (.lst ((is.map intC).map W)) = _
    rw [dot_eq, joinD_W hs]
  rcases h with h | ⟨s, rfl⟩
  · cases h with
    | non => simp [g_word_of, q_word_of, g_Lword, q_Lword, runQ, sRet, sSeq, sIf, sSet, sNil, fAndV, fOrV, fNotV, fAnd, fOr, fNot, fT, fIsi, fVar, isiD, f2, ltD, leB, gtD, geD, neD, intD0, intD, f1, aCons, aNil, absD, fC, powD, fChain, addD, subD, mulD, modD, fdivD, lenD, ixD, atI, ixN, fTup, fLst, fSl, sliceD, oNone, oSome, isNonD, notNonD, isNon, fIf, cutL, HT.sIx, List.getElem?_cons_zero, List.getElem?_cons_succ, wordC, W, minus_eq]
    | root => simp [g_word_of, q_word_of, g_Lword, q_Lword, runQ, sRet, sSeq, sIf, sSet, sNil, fAndV, fOrV, fNotV, fAnd, fOr, fNot, fT, fIsi, fVar, isiD, f2, ltD, leB, gtD, geD, neD, intD0, intD, f1, aCons, aNil, absD, fC, powD, fChain, addD, subD, mulD, modD, fdivD, lenD, ixD, atI, ixN, fTup, fLst, fSl, sliceD, oNone, oSome, isNonD, notNonD, isNon, fIf, cutL, HT.sIx, List.getElem?_cons_zero, List.getElem?_cons_succ, wordC, W, strD, mk_cps]
    | bin => simp [g_word_of, q_word_of, g_Lword, q_Lword, runQ, sRet, sSeq, sIf, sSet, sNil, fAndV, fOrV, fNotV, fAnd, fOr, fNot, fT, fIsi, fVar, isiD, f2, ltD, leB, gtD, geD, neD, intD0, intD, f1, aCons, aNil, absD, fC, powD, fChain, addD, subD, mulD, modD, fdivD, lenD, ixD, atI, ixN, fTup, fLst, fSl, sliceD, oNone, oSome, isNonD, notNonD, isNon, fIf, cutL, HT.sIx, List.getElem?_cons_zero, List.getElem?_cons_succ, wordC, W, strD, mk_cps]
    | int hi => simp [g_word_of, q_word_of, g_Lword, q_Lword, runQ, sRet, sSeq, sIf, sSet, sNil, fAndV, fOrV, fNotV, fAnd, fOr, fNot, fT, fIsi, fVar, isiD, f2, ltD, leB, gtD, geD, neD, intD0, intD, f1, aCons, aNil, absD, fC, powD, fChain, addD, subD, mulD, modD, fdivD, lenD, ixD, atI, ixN, fTup, fLst, fSl, sliceD, oNone, oSome, isNonD, notNonD, isNon, fIf, cutL, HT.sIx, List.getElem?_cons_zero, List.getElem?_cons_succ, wordC, str_int hi]
    | @two a b ha hb =>
      have hk := key (is := [a, b]) (by simp) (by simp [ha, hb])
      simp only [List.map_cons, List.map_nil] at hk
      simp [g_word_of, q_word_of, g_Lword, q_Lword, runQ, sRet, sSeq, sIf, sSet, sNil, fAndV, fOrV, fNotV, fAnd, fOr, fNot, fT, fIsi, fVar, isiD, f2, ltD, leB, gtD, geD, neD, intD0, intD, f1, aCons, aNil, absD, fC, powD, fChain, addD, subD, mulD, modD, fdivD, lenD, ixD, atI, ixN, fTup, fLst, fSl, sliceD, oNone, oSome, isNonD, notNonD, isNon, fIf, cutL, HT.sIx, List.getElem?_cons_zero, List.getElem?_cons_succ, wordC, intsC, hk]
    | @three a b c ha hb hc =>
      have hk := key (is := [a, b, c]) (by simp) (by simp [ha, hb, hc])
      simp only [List.map_cons, List.map_nil] at hk
      simp [g_word_of, q_word_of, g_Lword, q_Lword, runQ, sRet, sSeq, sIf, sSet, sNil, fAndV, fOrV, fNotV, fAnd, fOr, fNot, fT, fIsi, fVar, isiD, f2, ltD, leB, gtD, geD, neD, intD0, intD, f1, aCons, aNil, absD, fC, powD, fChain, addD, subD, mulD, modD, fdivD, lenD, ixD, atI, ixN, fTup, fLst, fSl, sliceD, oNone, oSome, isNonD, notNonD, isNon, fIf, cutL, HT.sIx, List.getElem?_cons_zero, List.getElem?_cons_succ, wordC, intsC, hk]
  · simp [g_word_of, q_word_of, g_Lword, q_Lword, runQ, sRet, sSeq, sIf, sSet, sNil, fAndV, fOrV, fNotV, fAnd, fOr, fNot, fT, fIsi, fVar, isiD, f2, ltD, leB, gtD, geD, neD, intD0, intD, f1, aCons, aNil, absD, fC, powD, fChain, addD, subD, mulD, modD, fdivD, lenD, ixD, atI, ixN, fTup, fLst, fSl, sliceD, oNone, oSome, isNonD, notNonD, isNon, fIf, cutL, HT.sIx, List.getElem?_cons_zero, List.getElem?_cons_succ, wordC, W, strD, mk_cps]
end K02
set_option maxRecDepth 100000
set_option maxHeartbeats 1000000
namespace K02
open PySem L2 DL TX
theorem cps_root : (Str.ofString "root").cps.toList = [114, 111, 111, 116] := by decide +kernel
theorem cps_bin : (Str.ofString "bin").cps.toList = [98, 105, 110] := by decide +kernel
theorem mk_inj {a b : List Nat} (h : mk a = mk b) : a = b := by
  have := congrArg (fun s => s.cps.toList) h
  simpa [mk] using this
theorem root_mk : (Str.ofString "root") = mk [114, 111, 111, 116] := by decide +kernel
theorem bin_mk : (Str.ofString "bin") = mk [98, 105, 110] := by decide +kernel
theorem beq_mk (a b : List Nat) : (mk a == mk b) = decide (a = b) := by
  by_cases h : a = b
  · simp [h]
  · have : ¬ mk a = mk b := fun z => h (mk_inj z)
    simp [h, this]
theorem int_no {i : Int} {c : Nat} (h : c = 32 ∨ c = 46 ∨ c = 114 ∨ c = 98) : c ∉ intC i := by
  intro hc
  have := intC_signs i c hc
  omega
theorem join_no {c : Nat} (h46 : c ≠ 46) : ∀ (is : List Int), (∀ i, c ∉ intC i) → c ∉ joinL 46 (is.map intC)
  | [], _ => by simp [joinL]
  | [i], h => by simpa [joinL] using h i
  | i :: j :: r, h => by
    rw [List.map_cons, joinL_cons (by simp)]
    intro z
    rcases List.mem_append.mp z with z | z
    · exact h i z
    · rcases List.mem_cons.mp z with z | z
      · exact h46 z
      · exact join_no h46 (j :: r) h z
theorem join_has (i j : Int) (r : List Int) : 46 ∈ joinL 46 ((i :: j :: r).map intC) := by
  rw [List.map_cons, joinL_cons (by simp)]
  simp
theorem word_no {x : D} (h : PG x) : 32 ∉ wordC x := by
  cases h with
  | non => decide
  | root => show 32 ∉ (Str.ofString "root").cps.toList; rw [cps_root]; decide
  | bin => show 32 ∉ (Str.ofString "bin").cps.toList; rw [cps_bin]; decide
  | int => exact int_no (.inl rfl)
  | @two a b => exact join_no (by decide) [a, b] fun i => int_no (.inl rfl)
  | @three a b c => exact join_no (by decide) [a, b, c] fun i => int_no (.inl rfl)
theorem join_len : ∀ (ws : List (List Nat)) (c : Nat), (joinL c ws).length ≤ (ws.map List.length).sum + ws.length
  | [], c => by simp [joinL]
  | [w], c => by simp [joinL]
  | w :: v :: r, c => by
    rw [joinL_cons (by simp), List.length_append, List.length_cons]
    have := join_len (v :: r) c
    simp only [List.map_cons, List.sum_cons, List.length_cons] at this ⊢
    omega
theorem word_len {x : D} (h : PG x) : (wordC x).length ≤ 200 := by
  cases h with
  | non => decide
  | root => show (Str.ofString "root").cps.toList.length ≤ 200; rw [cps_root]; decide
  | bin => show (Str.ofString "bin").cps.toList.length ≤ 200; rw [cps_bin]; decide
  | int hi => have := intC_len hi; show (intC _).length ≤ 200; omega
  | @two a b ha hb =>
    have h1 := intC_len ha
    have h2 := intC_len hb
    have := join_len [intC a, intC b] 46
    simp at this
    show (joinL 46 [intC a, intC b]).length ≤ 200
    omega
  | @three a b c ha hb hc =>
    have h1 := intC_len ha
    have h2 := intC_len hb
    have h3 := intC_len hc
    have := join_len [intC a, intC b, intC c] 46
    simp at this
    show (joinL 46 [intC a, intC b, intC c]).length ≤ 200
    omega
theorem num_ok {i : Int} (h : i.natAbs < 10 ^ 61) : g_number_of [W (intC i)] = some (.int i) := by
  have hl := intC_len h
  have h1 : intD1 [W (intC i)] = some (.int i) := by
    show (if (mk (intC i)).length ≤ 640 then (PySem.intText? (mk (intC i))).map D.int else none) = _
    rw [if_pos (by rw [len_mk]; omega), intT h]; rfl
  simp [g_number_of, q_number_of, runQ, sRet, sSeq, sIf, sSet, sNil, fAndV, fOrV, fNotV, fAnd, fOr, fNot, fT, fIsi, fVar, isiD, f2, ltD, leB, gtD, geD, neD, intD0, intD, f1, aCons, aNil, absD, fC, powD, fChain, addD, subD, mulD, modD, fdivD, lenD, ixD, atI, ixN, fTup, fLst, fSl, sliceD, oNone, oSome, isNonD, notNonD, isNon, fIf, cutL, HT.sIx, List.getElem?_cons_zero, List.getElem?_cons_succ, h1]
theorem in_dot (w : List Nat) : inB (.str (Str.ofString ".")) (W w) = some (.bl (decide (46 ∈ w))) := by
  show some (D.bl (!(Builtin.Str.occurrences (mk w) (Str.ofString ".") 0 (mk w).length 1).isEmpty)) = _
  rw [dot_eq, in_one]
  congr 2
theorem words_le (c : Nat) : ∀ (ws : List (List Nat)), ws.length ≤ (joinL c ws).length + 1
  | [] => by simp
  | [w] => by simp
  | w :: v :: vs => by
    have ih := words_le c (v :: vs)
    rw [joinL_cons (by simp), List.length_append]
    simp only [List.length_cons] at ih ⊢
    omega
theorem split_dot {pre : List (List Nat)} {last : List Nat} (hp : ∀ w ∈ pre, 46 ∉ w) (hlast : 46 ∉ last) (hn : pre.length ≤ (joinL 46 (pre ++ [last])).length + 1) (hl : (joinL 46 (pre ++ [last])).length ≤ 200) :
    splitD1 (W (joinL 46 (pre ++ [last]))) (.str (Str.ofString ".")) = some (.lst ((pre ++ [last]).map W)) := by
  show (if (Str.ofString ".").length ≠ 0 ∧ (mk (joinL 46 (pre ++ [last]))).length ≤ big then some (strsL (splitL (mk (joinL 46 (pre ++ [last]))) (Str.ofString ".") ((mk (joinL 46 (pre ++ [last]))).length + 1))) else none) = _
  rw [dot_eq, if_pos ⟨by decide, by rw [len_mk]; unfold big; omega⟩, split_join hp (by rw [len_mk]; exact hn) (.inl hlast) (by decide)]
  unfold strsL
  rw [List.map_map]
  rfl
theorem part_ok {x : D} (h : PG x) : g_part_of [W (wordC x)] = some x := by
  have hlen := word_len h
  have tup : ∀ {pre : List Int} {last : Int} {ds : List D}, x = .tup ds → ds = (pre ++ [last]).map D.int → pre ≠ [] → (∀ i ∈ pre ++ [last], i.natAbs < 10 ^ 61) → wordC x = joinL 46 ((pre ++ [last]).map intC) → g_part_of [W (wordC x)] = some x := by
    intro pre last ds hx hds hpre hb hw
    rw [hw] at hlen ⊢
    have e0 : (pre ++ [last]).map intC = pre.map intC ++ [intC last] := by simp
    obtain ⟨i, j, r, er⟩ : ∃ i j r, pre ++ [last] = i :: j :: r := by
      cases pre with
      | nil => exact absurd rfl hpre
      | cons i p => cases p with
        | nil => exact ⟨i, last, [], rfl⟩
        | cons j q => exact ⟨i, j, q ++ [last], rfl⟩
    have h46 : 46 ∈ joinL 46 ((pre ++ [last]).map intC) := by rw [er]; exact join_has i j r
    have hsp := split_dot (pre := pre.map intC) (last := intC last) (by
      intro w hw
      obtain ⟨i, _, rfl⟩ := List.mem_map.mp hw
      exact int_no (.inr (.inl rfl))) (int_no (.inr (.inl rfl))) (by
      have := words_le 46 (pre.map intC ++ [intC last])
      rw [List.length_append] at this
      omega) (by rw [← e0]; exact hlen)
    rw [← e0] at hsp
    have hne : ∀ (w : List Nat), 46 ∉ w → (mk (joinL 46 ((pre ++ [last]).map intC)) == mk w) = false := fun w hw => by
      rw [beq_mk]
      exact decide_eq_false fun z => hw (z ▸ h46)
    have n1 := hne [45] (by decide)
    have n2 := hne [114, 111, 111, 116] (by decide)
    have n3 := hne [98, 105, 110] (by decide)
    have hin := in_dot (joinL 46 ((pre ++ [last]).map intC))
    rw [decide_eq_true h46] at hin
    have hc := comp_map (fe := f1 g_number_of (aCons (fVar 0) aNil)) (F := fun d => match d with | .str s => (match PySem.intText? s with | some i => .int i | none => .non) | d => d) (((pre ++ [last]).map intC).map W) (by
      intro d hd
      rw [List.map_map] at hd
      obtain ⟨i, hi, rfl⟩ := List.mem_map.mp hd
      have := num_ok (hb i hi)
      have h2 := intT (hb i hi)
      simp [f1, aCons, fVar, aNil, this, h2])
    have hmap : ((((pre ++ [last]).map intC).map W).map fun d => match d with | .str s => (match PySem.intText? s with | some i => D.int i | none => .non) | d => d) = (pre ++ [last]).map D.int := by
      rw [List.map_map, List.map_map]
      apply List.map_congr_left
      intro i hi
      have h2 := intT (hb i hi)
      simp [h2]
    rw [hmap] at hc
    have hcomp : fComp 1 [] (iLst (fSplit1 (fVar 0) (fC (.str ".")))) (bName 0) (fun _ => some true) (f1 g_number_of (aCons (fVar 0) aNil)) [some (W (joinL 46 ((pre ++ [last]).map intC)))] = some (.lst ((pre ++ [last]).map D.int)) := by
      have hi : iLst (fSplit1 (fVar 0) (fC (.str "."))) [some (W (joinL 46 ((pre ++ [last]).map intC)))] = some (((pre ++ [last]).map intC).map W) := by
        unfold iLst fSplit1
        show ((splitD1 (W (joinL 46 ((pre ++ [last]).map intC))) (.str (Str.ofString "."))).bind _) = _
        rw [hsp]; rfl
      unfold fComp
      rw [hi]
      show (if (((pre ++ [last]).map intC).map W).length ≤ big then Option.map D.lst (compF _ _ _ [none] _) else none) = _
      rw [if_pos (by
        have := words_le 46 ((pre ++ [last]).map intC)
        rw [List.length_map]
        unfold big
        omega), hc]; rfl
    rw [← minus_eq] at n1
    rw [← root_mk] at n2
    rw [← bin_mk] at n3
    subst hx
    rw [← hds] at hcomp
    generalize joinL 46 ((pre ++ [last]).map intC) = w at *
    simp [g_part_of, q_part_of, sSeq, sIf, sRet, sNil, fT, f2, fVar, fC, fOr, eq_str', n1, n2, n3, hin, f1, aCons, aNil, hcomp, tupleD, runQ, W]
  cases h with
  | non => simp [g_part_of, q_part_of, runQ, sRet, sSeq, sIf, sSet, sNil, fAndV, fOrV, fNotV, fAnd, fOr, fNot, fT, fIsi, fVar, isiD, f2, ltD, leB, gtD, geD, neD, intD0, intD, f1, aCons, aNil, absD, fC, powD, fChain, addD, subD, mulD, modD, fdivD, lenD, ixD, atI, ixN, fTup, fLst, fSl, sliceD, oNone, oSome, isNonD, notNonD, isNon, fIf, cutL, HT.sIx, List.getElem?_cons_zero, List.getElem?_cons_succ, wordC, W, ← minus_eq, eq_str']
  | root =>
    have n1 : (Str.ofString "root" == Str.ofString "-") = false := by decide +kernel
    simp [g_part_of, q_part_of, runQ, sRet, sSeq, sIf, sSet, sNil, fAndV, fOrV, fNotV, fAnd, fOr, fNot, fT, fIsi, fVar, isiD, f2, ltD, leB, gtD, geD, neD, intD0, intD, f1, aCons, aNil, absD, fC, powD, fChain, addD, subD, mulD, modD, fdivD, lenD, ixD, atI, ixN, fTup, fLst, fSl, sliceD, oNone, oSome, isNonD, notNonD, isNon, fIf, cutL, HT.sIx, List.getElem?_cons_zero, List.getElem?_cons_succ, wordC, W, mk_cps, eq_str', n1]
  | bin =>
    have n1 : (Str.ofString "bin" == Str.ofString "-") = false := by decide +kernel
    have n2 : (Str.ofString "bin" == Str.ofString "root") = false := by decide +kernel
    simp [g_part_of, q_part_of, runQ, sRet, sSeq, sIf, sSet, sNil, fAndV, fOrV, fNotV, fAnd, fOr, fNot, fT, fIsi, fVar, isiD, f2, ltD, leB, gtD, geD, neD, intD0, intD, f1, aCons, aNil, absD, fC, powD, fChain, addD, subD, mulD, modD, fdivD, lenD, ixD, atI, ixN, fTup, fLst, fSl, sliceD, oNone, oSome, isNonD, notNonD, isNon, fIf, cutL, HT.sIx, List.getElem?_cons_zero, List.getElem?_cons_succ, wordC, W, mk_cps, eq_str', n1, n2]
  | @int i hi =>
    have n1 : (mk (intC i) == Str.ofString "-") = false := by rw [minus_eq, beq_mk]; exact decide_eq_false (intC_ne i).2
    have n2 : (mk (intC i) == Str.ofString "root") = false := by
      rw [root_mk, beq_mk]; exact decide_eq_false fun z => int_no (i := i) (c := 114) (.inr (.inr (.inl rfl))) (by rw [z]; decide)
    have n3 : (mk (intC i) == Str.ofString "bin") = false := by
      rw [bin_mk, beq_mk]; exact decide_eq_false fun z => int_no (i := i) (c := 98) (.inr (.inr (.inr rfl))) (by rw [z]; decide)
    have hin := in_dot (intC i)
    rw [decide_eq_false (int_no (.inr (.inl rfl)))] at hin
    have hnum := num_ok hi
    simp [g_part_of, q_part_of, sSeq, sIf, sRet, sNil, fT, f2, fVar, fC, fOr, eq_str', n1, n2, n3, hin, f1, aCons, aNil, runQ, W, wordC, hnum]
  | @two a b ha hb => exact tup (pre := [a]) (last := b) rfl rfl (by simp) (by simp [ha, hb]) rfl
  | @three a b c ha hb hc => exact tup (pre := [a, b]) (last := c) rfl rfl (by simp) (by simp [ha, hb, hc]) rfl
end K02
set_option maxRecDepth 100000
set_option maxHeartbeats 1000000
namespace K02
open PySem L2 DL TX
def WG (x : D) : Prop := PG x ∨ ∃ s : Str, x = .str s ∧ s.length ≤ 100
theorem wg_word {x : D} (h : WG x) : g_word_of [x] = some (W (wordC x)) ∧ g_Lword [x] = some (W (wordC x)) := word_ok (h.imp id fun ⟨s, e, _⟩ => ⟨s, e⟩)
theorem wg_len {x : D} (h : WG x) : (wordC x).length ≤ 200 := by
  rcases h with h | ⟨s, rfl, hs⟩
  · exact word_len h
  · show s.cps.toList.length ≤ 200
    have : s.cps.toList.length = s.length := by simp [Str.length]
    omega
theorem sum_le : ∀ (xs : List D), (∀ x ∈ xs, WG x) → ((xs.map wordC).map List.length).sum ≤ 200 * xs.length
  | [], _ => by simp
  | x :: xs, h => by
    have h1 := wg_len (h x List.mem_cons_self)
    have h2 := sum_le xs fun y hy => h y (List.mem_cons_of_mem _ hy)
    simp only [List.map_cons, List.sum_cons, List.length_cons]
    omega
def lineC (xs : List D) : List Nat := joinL 32 (xs.map wordC)
theorem comp_words {xs : List D} {g : List D → Option D} (hg : ∀ x ∈ xs, g [x] = some (W (wordC x))) : compF (bName 0) (fun _ => some true) (f1 g (aCons (fVar 0) aNil)) [none] xs = some ((xs.map wordC).map W) := by
  rw [comp_map (F := fun d => W (wordC d)) xs fun d hd => by simp [f1, aCons, fVar, aNil, hg d hd], List.map_map]
  rfl
theorem shown_ok {h n tm : D} {ds : List D} (hx : ∀ x ∈ h :: n :: tm :: ds, WG x) (hl : ds.length ≤ 10) : g_shown [.tup [h, n, tm, .tup ds]] = some (W (lineC (h :: n :: tm :: ds))) := by
  have hc := comp_words (g := g_word_of) fun x hm => (wg_word (hx x hm)).1
  have hs := sum_le _ hx
  have a1 : addD (.tup [h, n, tm]) (.tup ds) = some (.tup (h :: n :: tm :: ds)) := by
    show (if 3 + ds.length ≤ big then some (D.tup ([h, n, tm] ++ ds)) else none) = _
    rw [if_pos (by unfold big; omega)]; rfl
  have c3 : sliceD (.tup [h, n, tm, .tup ds]) none (some 3) = some (.tup [h, n, tm]) := by simp [sliceD, cutL, HT.sIx]
  have hi : iTup (f2 addD (fSl (fVar 0) oNone (oSome (fC (.int 3)))) (f2 ixD (fVar 0) (fC (.int 3)))) [some (.tup [h, n, tm, .tup ds])] = some (h :: n :: tm :: ds) := by
    simp [DL.iTup, f2, fSl, fVar, oNone, oSome, fC, c3, ixD, atI, ixN, a1]
  have hcomp : fComp 1 [] (iTup (f2 addD (fSl (fVar 0) oNone (oSome (fC (.int 3)))) (f2 ixD (fVar 0) (fC (.int 3))))) (bName 0) (fun _ => some true) (f1 g_word_of (aCons (fVar 0) aNil)) [some (.tup [h, n, tm, .tup ds])] = some (.lst (((h :: n :: tm :: ds).map wordC).map W)) := by
    unfold fComp
    rw [hi]
    show (if (h :: n :: tm :: ds).length ≤ big then Option.map D.lst (compF _ _ _ [none] _) else none) = _
    rw [if_pos (by simp only [List.length_cons]; unfold big; omega), hc]; rfl
  have hj : joinD (.str " ") (.lst (((h :: n :: tm :: ds).map wordC).map W)) = some (W (lineC (h :: n :: tm :: ds))) := by
    rw [blank_eq]
    refine joinD_W ?_
    simp only [List.length_cons, List.length_map] at hs ⊢
    unfold big
    omega
  have hq : q_shown [some (.tup [h, n, tm, .tup ds])] = some (.rt (W (lineC (h :: n :: tm :: ds)))) := by
    unfold q_shown sRet fJoin
    rw [hcomp]
    show ((joinD (.str " ") (.lst (((h :: n :: tm :: ds).map wordC).map W))).map Fl.rt) = _
    rw [hj]; rfl
  unfold g_shown runQ
  rw [if_pos (by rfl)]
  show (match q_shown [some (.tup [h, n, tm, .tup ds])] with | some (.rt d) => some d | some (.nx _) => some .non | none => none) = _
  rw [hq]
theorem eq_l1 (a b : Str) : eqD' (.lst [.str a]) (.lst [.str b]) = some (.bl (a == b)) := by
  have : eqD (.lst [.str a]) (.lst [.str b]) = (a == b) := by
    unfold eqD
    unfold eqDL
    rw [eqD_str]
    unfold eqDL
    simp
  unfold eqD'
  rw [this]
  simp [noFn, noFnL, dep, depL]
theorem comp_parts {xs : List D} (h : ∀ x ∈ xs, PG x) : compF (bName 0) (fun _ => some true) (f1 g_part_of (aCons (fVar 0) aNil)) [none] ((xs.map wordC).map W) = some xs := by
  induction xs with
  | nil => rfl
  | cons x xs ih =>
    have h1 := part_ok (h x List.mem_cons_self)
    have ih' := ih fun y hy => h y (List.mem_cons_of_mem _ hy)
    simp only [List.map_cons, compF, ih']
    simp [bName, f1, aCons, fVar, aNil, h1]
theorem deed_of_ok {k : Str} {xs : List D} (hk : k ≠ "write") (hx : ∀ x ∈ xs, PG x) (hl : xs.length ≤ 3) : g_deed_of [.lst (.str k :: (xs.map wordC).map W)] = some (.tup (.str k :: xs)) := by
  have hp := comp_parts hx
  generalize hws : (xs.map wordC).map W = ws at hp ⊢
  have hwl : ws.length = xs.length := by rw [← hws]; simp
  have hb : (k == Str.ofString "write") = false := by simpa using hk
  have c1 : sliceD (.lst (.str k :: ws)) none (some 1) = some (.lst [.str k]) := by
    simp [sliceD, cutL, HT.sIx]
  have c2 : sliceD (.lst (.str k :: ws)) (some 1) (some ((ws.length : Int) + 1)) = some (.lst ws) := by
    have e : ((ws.length : Int) + 1) = ((ws.length + 1 : Nat) : Int) := by omega
    show some (D.lst (cutL _ (some 1) (some ((ws.length : Int) + 1)))) = _
    unfold cutL
    rw [e, show (1 : Int) = ((1 : Nat) : Int) from rfl, HT.sIx_nat, HT.sIx_nat]
    simp
  have c3 : sliceD (.lst (.str k :: ws)) (some ((ws.length : Int) + 1)) none = some (.lst []) := by
    have e : ((ws.length : Int) + 1) = ((ws.length + 1 : Nat) : Int) := by omega
    show some (D.lst (cutL _ (some ((ws.length : Int) + 1)) none)) = _
    unfold cutL
    rw [e, HT.sIx_nat]
    simp
  have hcomp : fComp 1 [] (iLst (fSl (fVar 0) (oSome (fC (.int 1))) (oSome (fVar 1)))) (bName 0) (fun _ => some true) (f1 g_part_of (aCons (fVar 0) aNil)) [some (.lst (.str k :: ws)), some (.int ((ws.length : Int) + 1))] = some (.lst xs) := by
    have hi : iLst (fSl (fVar 0) (oSome (fC (.int 1))) (oSome (fVar 1))) [some (.lst (.str k :: ws)), some (.int ((ws.length : Int) + 1))] = some ws := by
      simp [iLst, fSl, fVar, oSome, fC, c2]
    unfold fComp
    rw [hi]
    show (if ws.length ≤ big then Option.map D.lst (compF _ _ _ [none] _) else none) = _
    rw [if_pos (by unfold big; omega), hp]; rfl
  have a1 : addD (.lst [.str k]) (.lst xs) = some (.lst (.str k :: xs)) := by
    show (if 1 + xs.length ≤ big then some (D.lst ([.str k] ++ xs)) else none) = _
    rw [if_pos (by unfold big; omega)]; rfl
  have a2 : addD (.lst (.str k :: xs)) (.lst []) = some (.lst (.str k :: xs)) := by
    show (if xs.length + 1 + 0 ≤ big then some (D.lst ((.str k :: xs) ++ [])) else none) = _
    rw [if_pos (by unfold big; omega), List.append_nil]
  have s1 : sSet 1 (fIf (fT (f2 eqD' (fSl (fVar 0) oNone (oSome (fC (.int 1)))) (fC (.lst [(.str "write")])))) (fC (.int 3)) (f1 lenD (aCons (fVar 0) aNil))) [some (.lst (.str k :: ws)), none] = some (.nx [some (.lst (.str k :: ws)), some (.int ((ws.length : Int) + 1))]) := by
    have hq := eq_l1 k "write"
    rw [hb] at hq
    simp [sSet, fIf, fT, f2, fSl, fVar, oNone, oSome, fC, c1, hq, f1, aCons, aNil, lenD]
  have hq : q_deed_of [some (.lst (.str k :: ws)), none] = some (.rt (.tup (.str k :: xs))) := by
    unfold q_deed_of
    rw [seq_nx s1]
    simp [sRet, f1, aCons, aNil, f2, fSl, fVar, oNone, oSome, fC, c1, c3, hcomp, a1, a2, tupleD]
  unfold g_deed_of runQ
  rw [if_pos (by rfl)]
  show (match q_deed_of [some (.lst (.str k :: ws)), none] with | some (.rt d) => some d | some (.nx _) => some .non | none => none) = _
  rw [hq]
theorem deed_of_write {a b : D} {s : Str} (ha : PG a) (hb : PG b) : g_deed_of [.lst [.str "write", W (wordC a), W (wordC b), .str s]] = some (.tup [.str "write", a, b, .str s]) := by
  have hp := comp_parts (xs := [a, b]) (by simp [ha, hb])
  simp only [List.map_cons, List.map_nil] at hp
  generalize W (wordC a) = wa at hp ⊢
  generalize W (wordC b) = wb at hp ⊢
  have hq := eq_l1 "write" "write"
  rw [beq_self_eq_true] at hq
  have c1 : sliceD (.lst [.str "write", wa, wb, .str s]) none (some 1) = some (.lst [.str "write"]) := by simp [sliceD, cutL, HT.sIx]
  have c2 : sliceD (.lst [.str "write", wa, wb, .str s]) (some 1) (some 3) = some (.lst [wa, wb]) := by simp [sliceD, cutL, HT.sIx]
  have c3 : sliceD (.lst [.str "write", wa, wb, .str s]) (some 3) none = some (.lst [.str s]) := by simp [sliceD, cutL, HT.sIx]
  have hcomp : fComp 1 [] (iLst (fSl (fVar 0) (oSome (fC (.int 1))) (oSome (fVar 1)))) (bName 0) (fun _ => some true) (f1 g_part_of (aCons (fVar 0) aNil)) [some (.lst [.str "write", wa, wb, .str s]), some (.int 3)] = some (.lst [a, b]) := by
    have hi : iLst (fSl (fVar 0) (oSome (fC (.int 1))) (oSome (fVar 1))) [some (.lst [.str "write", wa, wb, .str s]), some (.int 3)] = some [wa, wb] := by
      simp [iLst, fSl, fVar, oSome, fC, c2]
    unfold fComp
    rw [hi]
    show (if 2 ≤ big then Option.map D.lst (compF _ _ _ [none] _) else none) = _
    rw [if_pos (by decide), hp]; rfl
  have s1 : sSet 1 (fIf (fT (f2 eqD' (fSl (fVar 0) oNone (oSome (fC (.int 1)))) (fC (.lst [(.str "write")])))) (fC (.int 3)) (f1 lenD (aCons (fVar 0) aNil))) [some (.lst [.str "write", wa, wb, .str s]), none] = some (.nx [some (.lst [.str "write", wa, wb, .str s]), some (.int 3)]) := by
    simp [sSet, fIf, fT, f2, fSl, fVar, oNone, oSome, fC, c1, hq]
  have hqq : q_deed_of [some (.lst [.str "write", wa, wb, .str s]), none] = some (.rt (.tup [.str "write", a, b, .str s])) := by
    unfold q_deed_of
    rw [seq_nx s1]
    simp [sRet, f1, aCons, aNil, f2, fSl, fVar, oNone, oSome, fC, c1, c3, hcomp, addD, big, tupleD]
  unfold g_deed_of runQ
  rw [if_pos (by rfl)]
  show (match q_deed_of [some (.lst [.str "write", wa, wb, .str s]), none] with | some (.rt d) => some d | some (.nx _) => some .non | none => none) = _
  rw [hqq]
end K02
set_option maxRecDepth 100000
set_option maxHeartbeats 1000000
namespace K02
open PySem L2 DL TX
variable {t : Adr}
theorem rest_put (r : List D) : restB "put" r = putB r := by unfold restB; rw [if_pos rfl]
theorem rest_move (r : List D) : restB "move" r = moveB r := by unfold restB; rw [if_neg (by decide +kernel), if_pos rfl]
theorem rest_drop (r : List D) : restB "drop" r = dropB r := by unfold restB; rw [if_neg (by decide +kernel), if_neg (by decide +kernel), if_pos rfl]
theorem rest_write (r : List D) : restB "write" r = writeB r := by unfold restB; rw [if_neg (by decide +kernel), if_neg (by decide +kernel), if_neg (by decide +kernel), if_pos rfl]
theorem rest_cut (r : List D) : restB "cut" r = cutB r := by unfold restB; rw [if_neg (by decide +kernel), if_neg (by decide +kernel), if_neg (by decide +kernel), if_neg (by decide +kernel), if_pos rfl]
theorem rest_set (r : List D) : restB "set" r = setB r := by unfold restB; rw [if_neg (by decide +kernel), if_neg (by decide +kernel), if_neg (by decide +kernel), if_neg (by decide +kernel), if_neg (by decide +kernel), if_pos rfl]
theorem rest_undo (r : List D) : restB "undo" r = undoB r := by unfold restB; rw [if_neg (by decide +kernel), if_neg (by decide +kernel), if_neg (by decide +kernel), if_neg (by decide +kernel), if_neg (by decide +kernel), if_neg (by decide +kernel), if_pos rfl]
theorem rest_redo (r : List D) : restB "redo" r = undoB r := by unfold restB; rw [if_neg (by decide +kernel), if_neg (by decide +kernel), if_neg (by decide +kernel), if_neg (by decide +kernel), if_neg (by decide +kernel), if_neg (by decide +kernel), if_neg (by decide +kernel), if_pos rfl]
theorem name_B {x : D} (h : NameG x) : nameB x = true ∧ nice B 1 x = true := by
  obtain ⟨a, b, rfl, h1, h2, h3, h4⟩ := h
  have q1 : a.natAbs ≤ B := by unfold B; omega
  have q2 : b.natAbs ≤ B := by unfold B; omega
  simp [nameB, below, from1, h1, h2, h3, nice, q1, q2]
theorem item_B {x : D} (h : ItemG x) : itemB x = true ∧ nice B 1 x = true := by
  rcases h with rfl | rfl | h
  · exact ⟨by decide +kernel, by decide +kernel⟩
  · exact ⟨by decide +kernel, by decide +kernel⟩
  · have := name_B h
    simp [itemB, this.1, this.2]
theorem sib_B {x : D} (h : SibG x) : sibB x = true ∧ nice B 1 x = true := by
  rcases h with rfl | h
  · exact ⟨rfl, rfl⟩
  · have := name_B h
    simp [sibB, this.1, this.2]
theorem signT_B {x : D} (h : SignT x) : signB x = true ∧ nice B 1 x = true := by
  obtain ⟨a, b, c, rfl, h1, h2, h3, h4, h5, h6⟩ := h
  have q1 : a.natAbs ≤ B := by unfold B; omega
  have q2 : b.natAbs ≤ B := by unfold B; omega
  have q3 : c.natAbs ≤ B := by unfold B; omega
  have q4 : c < 16 := by omega
  simp [signB, below, from1, h1, h2, h3, h5, q4, nice, q1, q2, q3]
theorem sign_B {x : D} (h : SignG x) : behB x = true ∧ nice B 1 x = true := by
  rcases h with rfl | h
  · exact ⟨rfl, rfl⟩
  · have := signT_B h
    simp [behB, this.1, this.2]
theorem dg_B {d : D} (h : DG d) : deedB d = true ∧ nice B 2 d = true := by
  cases h with
  | put h1 h2 =>
    have a := item_B h1; have b := sib_B h2
    exact ⟨by show restB "put" _ = true; rw [rest_put]; simp [putB, a.1, b.1], by simp [nice, a.2, b.2]; decide +kernel⟩
  | move h1 h2 h3 =>
    have a := item_B h1; have b := item_B h2; have c := sib_B h3
    exact ⟨by show restB "move" _ = true; rw [rest_move]; simp [moveB, a.1, b.1, c.1], by simp [nice, a.2, b.2, c.2]; decide +kernel⟩
  | drop h1 =>
    have a := item_B h1
    exact ⟨by show restB "drop" _ = true; rw [rest_drop]; simp [dropB, a.1], by simp [nice, a.2]; decide +kernel⟩
  | @write a b s h1 h2 h3 h4 h5 =>
    have a := item_B h1; have b := sign_B h2
    exact ⟨by show restB "write" _ = true; rw [rest_write]; simp [writeB, a.1, b.1, textB, h4, h5], by simp [nice, a.2, b.2, h3]; decide +kernel⟩
  | @cut a x y z m h1 h2 h3 h4 =>
    have a := item_B h1; have b := signT_B h2
    obtain ⟨x', y', z', e, g⟩ := id h2
    simp only [D.tup.injEq, List.cons.injEq, D.int.injEq, and_true] at e
    obtain ⟨rfl, rfl, rfl⟩ := e
    have q : m.natAbs ≤ B := by unfold B; omega
    have qx : x.natAbs ≤ B := by unfold B; omega
    have qy : y.natAbs ≤ B := by unfold B; omega
    have qz : z.natAbs ≤ B := by unfold B; omega
    exact ⟨by show restB "cut" _ = true; rw [rest_cut]; simp [cutB, a.1, b.1, from1, h3, within, h4], by simp [nice, a.2, q, qx, qy, qz]; decide +kernel⟩
  | @set a p n h1 h2 h3 h4 =>
    have a := item_B h1
    have q1 : p.natAbs ≤ B := by unfold B; omega
    have q2 : n.natAbs ≤ B := by unfold B; omega
    have q3 : p < 4 := by omega
    exact ⟨by show restB "set" _ = true; rw [rest_set]; simp [setB, a.1, below, isInt, h2, q3], by simp [nice, a.2, q1, q2]; decide +kernel⟩
  | undo h1 =>
    have a := name_B h1
    exact ⟨by show restB "undo" _ = true; rw [rest_undo]; simp [undoB, a.1], by simp [nice, a.2]; decide +kernel⟩
  | redo h1 =>
    have a := name_B h1
    exact ⟨by show restB "redo" _ = true; rw [rest_redo]; simp [undoB, a.1], by simp [nice, a.2]; decide +kernel⟩
theorem int_WG {i : Int} (h : i.natAbs < 10 ^ 61) : WG (.int i) := .inl (.int h)
theorem kind_WG {k : Str} (h : k.length ≤ 100) : WG (.str k) := .inr ⟨k, rfl, h⟩
theorem split_line {pre : List D} {last : D} (hp : ∀ x ∈ pre, 32 ∉ wordC x) (hw : ∀ x ∈ pre ++ [last], WG x) (hn : pre.length ≤ 6) (hl : 32 ∉ wordC last ∨ pre.length = 6) :
    splitD2 (W (lineC (pre ++ [last]))) (.str (Str.ofString " ")) (.int 6) = some (.lst (((pre ++ [last]).map wordC).map W)) := by
  have hlen : (lineC (pre ++ [last])).length ≤ 100000 := by
    have h1 := join_len ((pre ++ [last]).map wordC) 32
    have h2 := sum_le _ hw
    unfold lineC
    simp only [List.length_append, List.length_map, List.length_cons, List.length_nil] at h1 h2 ⊢
    omega
  show (if (Str.ofString " ").length ≠ 0 ∧ (mk (lineC (pre ++ [last]))).length ≤ big ∧ (0 : Int) ≤ 6 ∧ (6 : Int) ≤ 1000 then some (strsL (splitL (mk (lineC (pre ++ [last]))) (Str.ofString " ") (limitOf (mk (lineC (pre ++ [last]))) 6))) else none) = _
  rw [blank_eq, if_pos ⟨by decide, by rw [len_mk]; exact hlen, by decide, by decide⟩]
  have e : limitOf (mk (lineC (pre ++ [last]))) 6 = 6 := rfl
  have e2 : lineC (pre ++ [last]) = joinL 32 (pre.map wordC ++ [wordC last]) := by unfold lineC; simp
  rw [e, e2, split_join (c := 32) (lim := 6) (by
    intro w hw'
    obtain ⟨x, hx, rfl⟩ := List.mem_map.mp hw'
    exact hp x hx) (by rw [List.length_map]; exact hn) (by rw [List.length_map]; exact hl) (by decide)]
  unfold strsL
  simp [W]
theorem read_words (nd : t.nd) {h n tm : Int} {rest : List D} {ds : List D} {line : List Nat} (hh : h.natAbs < 10 ^ 61) (hn : n.natAbs < 10 ^ 61) (ht : tm.natAbs < 10 ^ 61)
    (hs : splitD2 (W line) (.str (Str.ofString " ")) (.int 6) = some (.lst (W (intC h) :: W (intC n) :: W (intC tm) :: rest)))
    (hd : g_deed_of [.lst rest] = some (.tup ds)) (ho : g_is_operation t [.tup [.int h, .int n, .int tm, .tup ds]] = some (.bl true)) (hw : g_shown [.tup [.int h, .int n, .int tm, .tup ds]] = some (W line)) :
    g_read t [W line] = some (.tup [.int h, .int n, .int tm, .tup ds]) := by
  have c1 : sliceD (.lst (W (intC h) :: W (intC n) :: W (intC tm) :: rest)) none (some 3) = some (.lst [W (intC h), W (intC n), W (intC tm)]) := by
    show some (D.lst (cutL _ none (some 3))) = _
    unfold cutL
    rw [show (3 : Int) = ((3 : Nat) : Int) from rfl, HT.sIx_nat]
    simp [HT.sIx]
  have c2 : sliceD (.lst (W (intC h) :: W (intC n) :: W (intC tm) :: rest)) (some 3) none = some (.lst rest) := by
    show some (D.lst (cutL _ (some 3) none)) = _
    unfold cutL
    rw [show (3 : Int) = ((3 : Nat) : Int) from rfl, HT.sIx_nat]
    simp [HT.sIx]
  have hcomp : ∀ x, fComp 1 [] (iLst (fSl (fVar 1) oNone (oSome (fC (.int 3))))) (bName 0) (fun _ => some true) (f1 g_number_of (aCons (fVar 0) aNil)) [x, some (.lst (W (intC h) :: W (intC n) :: W (intC tm) :: rest)), none] = some (.lst [.int h, .int n, .int tm]) := by
    intro x
    have hi : iLst (fSl (fVar 1) oNone (oSome (fC (.int 3)))) [x, some (.lst (W (intC h) :: W (intC n) :: W (intC tm) :: rest)), none] = some [W (intC h), W (intC n), W (intC tm)] := by
      simp [iLst, fSl, fVar, oNone, oSome, fC, c1]
    unfold fComp
    rw [hi]
    show (if 3 ≤ big then Option.map D.lst (compF _ _ _ [none] _) else none) = _
    rw [if_pos (by decide)]
    simp [compF, bName, f1, aCons, fVar, aNil, num_ok hh, num_ok hn, num_ok ht]
  have hq : q_read t [some (W line), none, none] = some (.rt (.tup [.int h, .int n, .int tm, .tup ds])) := by
    unfold q_read
    rw [seq_nx (ρ' := [some (W line), some (.lst (W (intC h) :: W (intC n) :: W (intC tm) :: rest)), none]) (set_nx (by
      unfold fSplit2
      show splitD2 (W line) (.str (Str.ofString " ")) (.int 6) = _
      exact hs))]
    rw [seq_nx (ρ' := [some (W line), some (.lst (W (intC h) :: W (intC n) :: W (intC tm) :: rest)), some (.tup [.int h, .int n, .int tm, .tup ds])]) (set_nx (by
      simp [f1, aCons, aNil, f2, hcomp, fLst, fSl, fVar, oNone, oSome, fC, c2, hd, addD, big, tupleD]))]
    rw [seq_nx (ρ' := [some (W line), some (.lst (W (intC h) :: W (intC n) :: W (intC tm) :: rest)), some (.tup [.int h, .int n, .int tm, .tup ds])]) (by
      simp [sIf, fOr, fNot, fT, f1, aCons, aNil, fVar, ho, f2, hw, neD, sNil, W])]
    simp [sRet, fVar]
  unfold g_read runQ
  rw [if_pos (by rfl)]
  show (match q_read t [some (W line), none, none] with | some (.rt d) => some d | some (.nx _) => some .non | none => none) = _
  rw [hq]
end K02
set_option maxRecDepth 100000
set_option maxHeartbeats 1000000
namespace K02
open PySem L2 DL TX
variable {t : Adr}
theorem snoc_of {α : Type} : ∀ (r : List α), r ≠ [] → ∃ p l, r = p ++ [l]
  | [], h => absurd rfl h
  | [a], _ => ⟨[], a, rfl⟩
  | a :: b :: r, _ => by
    obtain ⟨p, l, e⟩ := snoc_of (b :: r) (by simp)
    exact ⟨a :: p, l, by rw [e]; rfl⟩
abbrev opOf (h n tm : Int) (k : Str) (r : List D) : D := .tup [.int h, .int n, .int tm, .tup (.str k :: r)]
abbrev lineOf (h n tm : Int) (k : Str) (r : List D) : List Nat := lineC (.int h :: .int n :: .int tm :: .str k :: r)
theorem back_nw (nd : t.nd) {h n tm : Int} {k : Str} {r : List D} (hh : h.natAbs < 10 ^ 61) (hn : n.natAbs < 10 ^ 61) (ht : tm.natAbs < 10 ^ 61) (hk : k ≠ "write") (hk32 : 32 ∉ k.cps.toList) (hkl : k.length ≤ 100) (hr : ∀ x ∈ r, PG x) (h1 : r ≠ []) (h3 : r.length ≤ 3)
    (ho : g_is_operation t [opOf h n tm k r] = some (.bl true)) : g_shown [opOf h n tm k r] = some (W (lineOf h n tm k r)) ∧ g_read t [W (lineOf h n tm k r)] = some (opOf h n tm k r) := by
  have hx : ∀ x ∈ (.int h :: .int n :: .int tm :: .str k :: r : List D), WG x := by
    intro x hx
    simp only [List.mem_cons] at hx
    rcases hx with rfl | rfl | rfl | rfl | hx
    · exact int_WG hh
    · exact int_WG hn
    · exact int_WG ht
    · exact kind_WG hkl
    · exact .inl (hr x hx)
  have hs := shown_ok (h := .int h) (n := .int n) (tm := .int tm) (ds := .str k :: r) hx (by simp; omega)
  refine ⟨hs, ?_⟩
  obtain ⟨p, l, rfl⟩ := snoc_of r h1
  have hp32 : ∀ x ∈ (.int h :: .int n :: .int tm :: .str k :: p : List D), 32 ∉ wordC x := by
    intro x hx
    simp only [List.mem_cons] at hx
    rcases hx with rfl | rfl | rfl | rfl | hx
    · exact int_no (.inl rfl)
    · exact int_no (.inl rfl)
    · exact int_no (.inl rfl)
    · exact hk32
    · exact word_no (hr x (List.mem_append_left _ hx))
  have hsp := split_line (pre := .int h :: .int n :: .int tm :: .str k :: p) (last := l) hp32 (by simpa using hx) (by simp at h3 ⊢; omega) (.inl (word_no (hr l (by simp))))
  refine read_words nd hh hn ht (rest := .str k :: ((p ++ [l]).map wordC).map W) (ds := .str k :: (p ++ [l])) ?_ (deed_of_ok hk hr h3) ho hs
  have e : W (wordC (.str k)) = .str k := by show D.str (mk k.cps.toList) = _; rw [mk_cps]
  rw [← e]
  exact hsp
theorem back_w (nd : t.nd) {h n tm : Int} {a b : D} {s : Str} (hh : h.natAbs < 10 ^ 61) (hn : n.natAbs < 10 ^ 61) (ht : tm.natAbs < 10 ^ 61) (ha : PG a) (hb : PG b) (hsl : s.length ≤ 16)
    (ho : g_is_operation t [opOf h n tm "write" [a, b, .str s]] = some (.bl true)) : g_shown [opOf h n tm "write" [a, b, .str s]] = some (W (lineOf h n tm "write" [a, b, .str s])) ∧ g_read t [W (lineOf h n tm "write" [a, b, .str s])] = some (opOf h n tm "write" [a, b, .str s]) := by
  have hk32 : 32 ∉ (Str.ofString "write").cps.toList := by decide +kernel
  have hx : ∀ x ∈ (.int h :: .int n :: .int tm :: .str "write" :: [a, b, .str s] : List D), WG x := by
    intro x hx
    simp only [List.mem_cons, List.not_mem_nil, or_false] at hx
    rcases hx with rfl | rfl | rfl | rfl | rfl | rfl | rfl
    · exact int_WG hh
    · exact int_WG hn
    · exact int_WG ht
    · exact kind_WG (by decide +kernel)
    · exact .inl ha
    · exact .inl hb
    · exact kind_WG (by omega)
  have hs := shown_ok (h := .int h) (n := .int n) (tm := .int tm) (ds := .str "write" :: [a, b, .str s]) hx (by simp)
  refine ⟨hs, ?_⟩
  have hp32 : ∀ x ∈ ([.int h, .int n, .int tm, .str "write", a, b] : List D), 32 ∉ wordC x := by
    intro x hx
    simp only [List.mem_cons, List.not_mem_nil, or_false] at hx
    rcases hx with rfl | rfl | rfl | rfl | rfl | rfl
    · exact int_no (.inl rfl)
    · exact int_no (.inl rfl)
    · exact int_no (.inl rfl)
    · exact hk32
    · exact word_no ha
    · exact word_no hb
  have hsp := split_line (pre := [.int h, .int n, .int tm, .str "write", a, b]) (last := .str s) hp32 (by simpa using hx) (by simp) (.inr rfl)
  have e : ∀ k : Str, W (wordC (.str k)) = .str k := fun k => by show D.str (mk k.cps.toList) = _; rw [mk_cps]
  refine read_words nd hh hn ht (rest := [.str "write", W (wordC a), W (wordC b), .str s]) (ds := [.str "write", a, b, .str s]) ?_ (deed_of_write ha hb) ho hs
  have e1 := e "write"
  have e2 := e s
  simp only [List.cons_append, List.nil_append, List.map_cons, List.map_nil, e1, e2] at hsp
  exact hsp
theorem back_ok (nd : t.nd) {h n tm : Int} {d : D} (h0 : 0 ≤ h) (h15 : h < 16) (n1 : 1 ≤ n) (n2 : n ≤ 2000) (t1 : 1 ≤ tm) (t2 : tm < 10 ^ 60) (hd : DG d) :
    ∃ ds line, d = .tup ds ∧ (∀ x ∈ .int h :: .int n :: .int tm :: ds, WG x) ∧ ds.length ≤ 4 ∧ line = lineC (.int h :: .int n :: .int tm :: ds) ∧ g_shown [.tup [.int h, .int n, .int tm, d]] = some (W line) ∧ g_read t [W line] = some (.tup [.int h, .int n, .int tm, d]) := by
  have hB := dg_B hd
  have q1 : h.natAbs ≤ B := by unfold B; omega
  have q2 : n.natAbs ≤ B := by unfold B; omega
  have q3 : tm.natAbs ≤ B := by unfold B; omega
  have ho : g_is_operation t [.tup [.int h, .int n, .int tm, d]] = some (.bl true) := by
    have := e_op nd (n := 2) (a := .int h) (b := .int n) (c := .int tm) (d := d) (by decide) (by simp [nice, q1]) (by simp [nice, q2]) (by simp [nice, q3]) hB.2
    rw [this, hB.1]
    simp [below, from1, h0, h15, n1, t1]
  have hh : h.natAbs < 10 ^ 61 := by omega
  have hn : n.natAbs < 10 ^ 61 := by omega
  have ht : tm.natAbs < 10 ^ 61 := by omega
  have nw : ∀ (k : Str) (r : List D), d = .tup (.str k :: r) → k ≠ "write" → 32 ∉ k.cps.toList → k.length ≤ 100 → (∀ x ∈ r, PG x) → r ≠ [] → r.length ≤ 3 →
      ∃ ds line, d = .tup ds ∧ (∀ x ∈ .int h :: .int n :: .int tm :: ds, WG x) ∧ ds.length ≤ 4 ∧ line = lineC (.int h :: .int n :: .int tm :: ds) ∧ g_shown [.tup [.int h, .int n, .int tm, d]] = some (W line) ∧ g_read t [W line] = some (.tup [.int h, .int n, .int tm, d]) := by
    intro k r e hk hk32 hkl hr h1 h3
    subst e
    have := back_nw nd hh hn ht hk hk32 hkl hr h1 h3 ho
    refine ⟨_, _, rfl, ?_, by simp; omega, rfl, this.1, this.2⟩
    intro x hx
    simp only [List.mem_cons] at hx
    rcases hx with rfl | rfl | rfl | rfl | hx
    · exact int_WG hh
    · exact int_WG hn
    · exact int_WG ht
    · exact kind_WG hkl
    · exact .inl (hr x hx)
  cases hd with
  | put h1 h2 => exact nw "put" _ rfl (by decide +kernel) (by decide +kernel) (by decide +kernel) (by simp [item_PG h1, sib_PG h2]) (by simp) (by simp)
  | move h1 h2 h3 => exact nw "move" _ rfl (by decide +kernel) (by decide +kernel) (by decide +kernel) (by simp [item_PG h1, item_PG h2, sib_PG h3]) (by simp) (by simp)
  | drop h1 => exact nw "drop" _ rfl (by decide +kernel) (by decide +kernel) (by decide +kernel) (by simp [item_PG h1]) (by simp) (by simp)
  | @write a b s h1 h2 h3 h4 h5 =>
    have := back_w nd hh hn ht (item_PG h1) (sign_PG h2) h5 ho
    refine ⟨_, _, rfl, ?_, by simp, rfl, this.1, this.2⟩
    intro x hx
    simp only [List.mem_cons, List.not_mem_nil, or_false] at hx
    rcases hx with rfl | rfl | rfl | rfl | rfl | rfl | rfl
    · exact int_WG hh
    · exact int_WG hn
    · exact int_WG ht
    · exact kind_WG (by decide +kernel)
    · exact .inl (item_PG h1)
    · exact .inl (sign_PG h2)
    · exact kind_WG (by omega)
  | @cut a x y z m h1 h2 h3 h4 =>
    have hm : m.natAbs < 10 ^ 61 := by
      obtain ⟨x', y', z', e, g⟩ := h2
      simp only [D.tup.injEq, List.cons.injEq, D.int.injEq, and_true] at e
      omega
    exact nw "cut" _ rfl (by decide +kernel) (by decide +kernel) (by decide +kernel) (by simp [item_PG h1, signT_PG h2, PG.int hm]) (by simp) (by simp)
  | @set a p v h1 h2 h3 h4 => exact nw "set" _ rfl (by decide +kernel) (by decide +kernel) (by decide +kernel) (by
      intro x hx
      simp only [List.mem_cons, List.not_mem_nil, or_false] at hx
      rcases hx with rfl | rfl | rfl
      · exact item_PG h1
      · exact .int (by omega)
      · exact .int (by omega)) (by simp) (by simp)
  | undo h1 => exact nw "undo" _ rfl (by decide +kernel) (by decide +kernel) (by decide +kernel) (by simp [name_PG h1]) (by simp) (by simp)
  | redo h1 => exact nw "redo" _ rfl (by decide +kernel) (by decide +kernel) (by decide +kernel) (by simp [name_PG h1]) (by simp) (by simp)
end K02
set_option maxRecDepth 100000
set_option maxHeartbeats 1000000
namespace K02
open PySem L2 DL TX
mutual
theorem eqD_refl : ∀ (d : D), noFn d = true → eqD d d = true
  | .non, _ => by unfold eqD; rfl
  | .bl b, _ => by unfold eqD; simp
  | .int b, _ => by unfold eqD; simp
  | .str b, _ => by unfold eqD; simp
  | .tup xs, h => by
    unfold noFn at h
    unfold eqD
    exact eqDL_refl xs h
  | .lst xs, h => by
    unfold noFn at h
    unfold eqD
    exact eqDL_refl xs h
  | .fn a, h => by simp [noFn] at h
  | .dk a, h => by simp [noFn] at h
theorem eqDL_refl : ∀ (ds : List D), noFnL ds = true → eqDL ds ds = true
  | [], _ => by unfold eqDL; rfl
  | d :: ds, h => by
    unfold noFnL at h
    rw [Bool.and_eq_true] at h
    unfold eqDL
    rw [eqD_refl d h.1, eqDL_refl ds h.2]; rfl
end
def lq0 : DEnv → Option Fl := (sSet 1 (f1 g_Lworld (aCons (fVar 0) (aCons (fC (.int 0)) (aCons (fC (.int 4)) aNil)))))
def lq1 : DEnv → Option Fl := (sSet 2 (f1 g_Ldeed (aCons (fVar 0) (aCons (fC (.int 30)) (aCons (fVar 1) (aCons (fC (.int 16)) aNil))))))
def lq2 : DEnv → Option Fl := (sSet 3 (f2 modD (f1 g_Lcell (aCons (fVar 0) (aCons (fC (.int 50)) aNil))) (f2 powD (fC (.int 10)) (fC (.int 60)))))
def lq3 : DEnv → Option Fl := (sIf (fAnd (fT (f2 eqD' (f2 ixD (fVar 2) (fC (.int 0))) (fC (.str "set")))) (fT (f2 eqD' (f2 modD (f1 g_Lmix (aCons (fVar 0) (aCons (fC (.int 51)) aNil))) (fC (.int 2))) (fC (.int 0))))) (sSet 2 (f2 addD (fSl (fVar 2) oNone (oSome (fC (.int 3)))) (fTup (aCons (f2 ixD (fLst (aCons (fVar 3) (aCons (fNeg (fVar 3)) aNil))) (f2 modD (f1 g_Lmix (aCons (fVar 0) (aCons (fC (.int 52)) aNil))) (fC (.int 2)))) aNil)))) sNil)
def lq4 : DEnv → Option Fl := (sSet 4 (f2 addD (fC (.int 1)) (f2 modD (f2 ixD (fLst (aCons (fVar 3) (aCons (fC (.int 7)) aNil))) (f2 modD (f1 g_Lmix (aCons (fVar 0) (aCons (fC (.int 55)) aNil))) (fC (.int 2)))) (f2 subD (f2 powD (fC (.int 10)) (fC (.int 60))) (fC (.int 1))))))
def lq5 : DEnv → Option Fl := (sSet 5 (fTup (aCons (f2 modD (f1 g_Lmix (aCons (fVar 0) (aCons (fC (.int 53)) aNil))) (fC (.int 16))) (aCons (f2 addD (fC (.int 1)) (f2 modD (f1 g_Lmix (aCons (fVar 0) (aCons (fC (.int 54)) aNil))) (fC (.int 99)))) (aCons (fVar 4) (aCons (fVar 2) aNil))))))
def lq6 : DEnv → Option Fl := (sSet 6 (fJoin (fC (.str " ")) (f2 addD (fComp 1 [] (iTup (fSl (fVar 5) oNone (oSome (fC (.int 3))))) (bName 0) (fun _ => some true) (f1 strD (aCons (fVar 0) aNil))) (fComp 1 [] (iTup (fVar 2)) (bName 0) (fun _ => some true) (f1 g_Lword (aCons (fVar 0) aNil))))))
def lq7 : DEnv → Option Fl := (sSet 7 (f1 g_shown (aCons (fVar 5) aNil)))
def lq8 : DEnv → Option Fl := (sIf (fOr (fNot (fT (fIsi "str" (fVar 7)))) (fT (f2 neD (fVar 7) (fVar 6)))) (sRet (fC (.bl false))) sNil)
def lq9 (t : Adr) : DEnv → Option Fl := (sSet 8 (f1 (g_read t) (aCons (fVar 7) aNil)))
def lq10 : DEnv → Option Fl := (sRet (fAndV (fIsi "tuple" (fVar 8)) (fAndV (fIsi "tuple" (f2 ixD (fVar 8) (fC (.int 3)))) (fAndV (f2 eqD' (fVar 8) (fVar 5)) (f1 g_Ltuples (aCons (f2 ixD (fVar 8) (fC (.int 3))) aNil))))))
theorem q_law_eq (t : Adr) : q_law t = (sSeq lq0 (sSeq lq1 (sSeq lq2 (sSeq lq3 (sSeq lq4 (sSeq lq5 (sSeq lq6 (sSeq lq7 (sSeq lq8 (sSeq (lq9 t) lq10)))))))))) := rfl
theorem tuples_ok {ds : List D} (h : ∀ x ∈ ds, WG x) (hl : ds.length ≤ 10) : g_Ltuples [.tup ds] = some (.bl true) := by
  have hc := comp_map (fe := fOrV (fIsiT ["int", "str", "tuple"] (fVar 0)) (f2 isNonD (fVar 0) (fC .non))) (F := fun _ => .bl true) ds (by
    intro d hd
    rcases h d hd with h | ⟨s, rfl, _⟩
    · cases h with
      | non => rfl
      | root => rfl
      | bin => rfl
      | int => rfl
      | two => simp [fOrV, fT, fIsiT, fVar, isiAny, isiD, noFn, noFnL]
      | three => simp [fOrV, fT, fIsiT, fVar, isiAny, isiD, noFn, noFnL]
    · rfl)
  have hb : ∀ (ds : List D), bools (ds.map fun _ => D.bl true) = some (ds.map fun _ => true) := by
    intro ds
    induction ds with
    | nil => rfl
    | cons d ds ih => simp only [List.map_cons, bools, ih, Option.map_some]
  have hcomp : fComp 1 [] (DL.iTup (fVar 0)) (bName 0) (fun _ => some true) (fOrV (fIsiT ["int", "str", "tuple"] (fVar 0)) (f2 isNonD (fVar 0) (fC .non))) [some (.tup ds)] = some (.lst (ds.map fun _ => .bl true)) := by
    show (if ds.length ≤ big then Option.map D.lst (compF _ _ _ [none] ds) else none) = _
    rw [if_pos (by unfold big; omega), hc]; rfl
  have hall : allD [.lst (ds.map fun _ => .bl true)] = some (.bl true) := by
    simp only [allD, hb, Option.map_some, List.all_map]
    simp
  simp [g_Ltuples, q_Ltuples, runQ, sRet, f1, aCons, aNil, hcomp, hall]
abbrev env (ns : List Int) (ops deed long time one due found back : Option D) : DEnv := [some (scr ns), ops, deed, long, time, one, due, found, back]
theorem law_true (t : Adr) (nd : t.nd) (ns : List Int) (hl : ns.length ≤ 63) : g_law t [.lst (ns.map .int)] = some (.bl true) := by
  obtain ⟨ops, eops, hol, hops⟩ := world_ok ns 0 4 (by decide)
  obtain ⟨deed, ed, hdeed⟩ := deed_ok ns (base := 30) (most := 16) hops (by omega) (by decide) (by decide)
  obtain ⟨c50, e50⟩ := cell_ok ns 50
  obtain ⟨m51, e51, _, _⟩ := mix_ok ns (k := 51)
  obtain ⟨m52, e52, _, _⟩ := mix_ok ns (k := 52)
  obtain ⟨m53, e53, _, _⟩ := mix_ok ns (k := 53)
  obtain ⟨m54, e54, _, _⟩ := mix_ok ns (k := 54)
  obtain ⟨m55, e55, _, _⟩ := mix_ok ns (k := 55)
  obtain ⟨long, hlong⟩ : ∃ l, l = c50 % 1000000000000000000000000000000000000000000000000000000000000 := ⟨_, rfl⟩
  have l0 : 0 ≤ long := by rw [hlong]; exact Int.emod_nonneg _ (by decide)
  have l1 : long < 1000000000000000000000000000000000000000000000000000000000000 := by rw [hlong]; exact Int.emod_lt_of_pos _ (by decide)
  -- the deed, perhaps with a long number
  have h3 : ∃ deed', DG deed' ∧ lq3 (env ns (some (.lst ops)) (some deed) (some (.int long)) none none none none none) = some (.nx (env ns (some (.lst ops)) (some deed') (some (.int long)) none none none none none)) := by
    obtain ⟨v, ev, hv⟩ := atI_ok (α := D) (xs := [.int long, .int (-long)]) (i := m52 % 2) (by omega) (by show _ < (2 : Int); omega)
    have ev' : ixD (.lst [.int long, .int (-long)]) (.int (m52 % 2)) = some v := ev
    obtain ⟨vi, rfl, hvi⟩ : ∃ i, v = .int i ∧ i.natAbs < 10 ^ 60 := by
      simp only [List.mem_cons, List.not_mem_nil, or_false] at hv
      rcases hv with rfl | rfl
      · exact ⟨_, rfl, by omega⟩
      · exact ⟨_, rfl, by omega⟩
    have skip : ∀ (k : Str) (r : List D), deed = .tup (.str k :: r) → (k == Str.ofString "set") = false → ∃ deed', DG deed' ∧ lq3 (env ns (some (.lst ops)) (some deed) (some (.int long)) none none none none none) = some (.nx (env ns (some (.lst ops)) (some deed') (some (.int long)) none none none none none)) := by
      intro k r e hk
      refine ⟨deed, hdeed, ?_⟩
      subst e
      simp [lq3, sIf, fAnd, fT, f2, fVar, fC, ixD, atI, ixN, eq_str', hk, sNil, env]
    cases hdeed with
    | put => exact skip "put" _ rfl (by decide +kernel)
    | move => exact skip "move" _ rfl (by decide +kernel)
    | drop => exact skip "drop" _ rfl (by decide +kernel)
    | write => exact skip "write" _ rfl (by decide +kernel)
    | cut => exact skip "cut" _ rfl (by decide +kernel)
    | undo => exact skip "undo" _ rfl (by decide +kernel)
    | redo => exact skip "redo" _ rfl (by decide +kernel)
    | @set a p n g1 g2 g3 g4 =>
      by_cases hz : m51 % 2 = 0
      · refine ⟨.tup [.str "set", a, .int p, .int vi], .set g1 g2 g3 hvi, ?_⟩
        have c3 : sliceD (.tup [.str "set", a, .int p, .int n]) none (some 3) = some (.tup [.str "set", a, .int p]) := by simp [sliceD, cutL, HT.sIx]
        have i0 : ixD (.tup [.str "set", a, .int p, .int n]) (.int 0) = some (.str "set") := by simp [ixD, atI, ixN]
        have a1 : addD (.tup [.str "set", a, .int p]) (.tup [.int vi]) = some (.tup [.str "set", a, .int p, .int vi]) := by simp [addD, big]
        simp [lq3, sIf, fAnd, fT, f2, fVar, fC, i0, eq_str', f1, aCons, aNil, e51, modD, intD, eq_int', hz, sSet, fSl, oNone, oSome, c3, fTup, fLst, fNeg, e52, ev', a1, env]
      · refine ⟨_, .set g1 g2 g3 g4, ?_⟩
        simp [lq3, sIf, fAnd, fT, f2, fVar, fC, ixD, atI, ixN, eq_str', f1, aCons, aNil, e51, modD, intD, eq_int', hz, sNil, env]
  obtain ⟨deed', hdg, e3⟩ := h3
  -- the time
  obtain ⟨v, ev, hv⟩ := atI_ok (α := D) (xs := [.int long, .int 7]) (i := m55 % 2) (by omega) (by show _ < (2 : Int); omega)
  have ev' : ixD (.lst [.int long, .int 7]) (.int (m55 % 2)) = some v := ev
  obtain ⟨vi, rfl⟩ : ∃ i, v = .int i := by
    simp only [List.mem_cons, List.not_mem_nil, or_false] at hv
    rcases hv with rfl | rfl
    · exact ⟨_, rfl⟩
    · exact ⟨_, rfl⟩
  obtain ⟨tm, htm⟩ : ∃ x, x = 1 + vi % 999999999999999999999999999999999999999999999999999999999999 := ⟨_, rfl⟩
  have t1 : 1 ≤ tm := by
    have := Int.emod_nonneg vi (b := 999999999999999999999999999999999999999999999999999999999999) (by decide)
    omega
  have t2 : tm < 10 ^ 60 := by
    have := Int.emod_lt_of_pos vi (b := 999999999999999999999999999999999999999999999999999999999999) (by decide)
    omega
  obtain ⟨ds, line, rfl, hwg, hdl, hline, hsh, hrd⟩ := back_ok nd (h := m53 % 16) (n := 1 + m54 % 99) (tm := tm) (by omega) (by omega) (by omega) (by omega) t1 t2 hdg
  -- the line that is due
  have hdue : fJoin (fC (.str " ")) (f2 addD (fComp 1 [] (DL.iTup (fSl (fVar 5) oNone (oSome (fC (.int 3))))) (bName 0) (fun _ => some true) (f1 strD (aCons (fVar 0) aNil))) (fComp 1 [] (DL.iTup (fVar 2)) (bName 0) (fun _ => some true) (f1 g_Lword (aCons (fVar 0) aNil))))
      (env ns (some (.lst ops)) (some (.tup ds)) (some (.int long)) (some (.int tm)) (some (.tup [.int (m53 % 16), .int (1 + m54 % 99), .int tm, .tup ds])) none none none) = some (W line) := by
    have b1 : (m53 % 16).natAbs < 10 ^ 61 := by omega
    have b2 : (1 + m54 % 99).natAbs < 10 ^ 61 := by omega
    have b3 : tm.natAbs < 10 ^ 61 := by omega
    have c3 : sliceD (.tup [.int (m53 % 16), .int (1 + m54 % 99), .int tm, .tup ds]) none (some 3) = some (.tup [.int (m53 % 16), .int (1 + m54 % 99), .int tm]) := by simp [sliceD, cutL, HT.sIx]
    have k1 : fComp 1 [] (DL.iTup (fSl (fVar 5) oNone (oSome (fC (.int 3))))) (bName 0) (fun _ => some true) (f1 strD (aCons (fVar 0) aNil)) (env ns (some (.lst ops)) (some (.tup ds)) (some (.int long)) (some (.int tm)) (some (.tup [.int (m53 % 16), .int (1 + m54 % 99), .int tm, .tup ds])) none none none) = some (.lst [W (intC (m53 % 16)), W (intC (1 + m54 % 99)), W (intC tm)]) := by
      have hi : DL.iTup (fSl (fVar 5) oNone (oSome (fC (.int 3)))) (env ns (some (.lst ops)) (some (.tup ds)) (some (.int long)) (some (.int tm)) (some (.tup [.int (m53 % 16), .int (1 + m54 % 99), .int tm, .tup ds])) none none none) = some [.int (m53 % 16), .int (1 + m54 % 99), .int tm] := by
        simp [DL.iTup, fSl, fVar, oNone, oSome, fC, c3, env]
      unfold fComp
      rw [hi]
      show (if 3 ≤ big then Option.map D.lst (compF _ _ _ [none] _) else none) = _
      rw [if_pos (by decide)]
      simp [compF, bName, f1, aCons, fVar, aNil, str_int b1, str_int b2, str_int b3]
    have hc2 := comp_words (g := g_Lword) (xs := ds) fun x hm => (wg_word (hwg x (by simp [hm]))).2
    have k2 : fComp 1 [] (DL.iTup (fVar 2)) (bName 0) (fun _ => some true) (f1 g_Lword (aCons (fVar 0) aNil)) (env ns (some (.lst ops)) (some (.tup ds)) (some (.int long)) (some (.int tm)) (some (.tup [.int (m53 % 16), .int (1 + m54 % 99), .int tm, .tup ds])) none none none) = some (.lst ((ds.map wordC).map W)) := by
      show (if ds.length ≤ big then Option.map D.lst (compF _ _ _ [none] ds) else none) = _
      rw [if_pos (by unfold big; omega), hc2]; rfl
    have a1 : addD (.lst [W (intC (m53 % 16)), W (intC (1 + m54 % 99)), W (intC tm)]) (.lst ((ds.map wordC).map W)) = some (.lst (((.int (m53 % 16) :: .int (1 + m54 % 99) :: .int tm :: ds).map wordC).map W)) := by
      show (if 3 + ((ds.map wordC).map W).length ≤ big then some (D.lst ([W (intC (m53 % 16)), W (intC (1 + m54 % 99)), W (intC tm)] ++ ((ds.map wordC).map W))) else none) = _
      rw [if_pos (by rw [List.length_map, List.length_map]; unfold big; omega)]; rfl
    have hs := sum_le _ hwg
    have hj : joinD (.str " ") (.lst (((.int (m53 % 16) :: .int (1 + m54 % 99) :: .int tm :: ds).map wordC).map W)) = some (W line) := by
      rw [blank_eq, hline]
      refine joinD_W ?_
      simp only [List.length_cons, List.length_map] at hs ⊢
      unfold big
      omega
    unfold fJoin f2
    rw [k1, k2]
    show ((addD (.lst [W (intC (m53 % 16)), W (intC (1 + m54 % 99)), W (intC tm)]) (.lst ((ds.map wordC).map W))).bind fun y => joinD (.str " ") y) = _
    rw [a1]
    exact hj
  have hds : ∀ x ∈ ds, WG x := fun x hx => hwg x (by simp [hx])
  have htup := tuples_ok hds (by omega)
  have hnf : noFn (.tup [.int (m53 % 16), .int (1 + m54 % 99), .int tm, .tup ds]) = true ∧ dep (.tup [.int (m53 % 16), .int (1 + m54 % 99), .int tm, .tup ds]) ≤ 40 := by
    have := nice_noFn (dg_B hdg).2
    have e1 := this.1
    have e2 := this.2
    unfold noFn at e1
    unfold dep at e2
    refine ⟨by simp [noFn, noFnL, e1], ?_⟩
    simp [dep, depL]
    omega
  have heq : eqD' (.tup [.int (m53 % 16), .int (1 + m54 % 99), .int tm, .tup ds]) (.tup [.int (m53 % 16), .int (1 + m54 % 99), .int tm, .tup ds]) = some (.bl true) := by
    unfold eqD'
    rw [eqD_refl _ hnf.1, hnf.1, decide_eq_true hnf.2]
    rfl
  have goal : q_law t [some (scr ns), none, none, none, none, none, none, none, none] = some (.rt (.bl true)) := by
    rw [q_law_eq]
    rw [seq_nx (ρ' := env ns (some (.lst ops)) none none none none none none none) (set_nx (by
      have : g_Lworld [scr ns, .int 0, .int 4] = some (.lst ops) := eops
      simp [f1, aCons, aNil, fVar, fC, this]))]
    rw [seq_nx (ρ' := env ns (some (.lst ops)) (some deed) none none none none none none) (set_nx (by simp [f1, aCons, aNil, fVar, fC, ed, env]))]
    rw [seq_nx (ρ' := env ns (some (.lst ops)) (some deed) (some (.int long)) none none none none none) (set_nx (by
      simp [f1, aCons, aNil, fVar, fC, f2, powD, modD, intD, e50, hlong, env]))]
    rw [seq_nx e3]
    rw [seq_nx (ρ' := env ns (some (.lst ops)) (some (.tup ds)) (some (.int long)) (some (.int tm)) none none none none) (set_nx (by
      simp [f1, aCons, aNil, fVar, fC, f2, powD, modD, intD, e55, fLst, ev', subD, intD0, addD, htm, env]))]
    rw [seq_nx (ρ' := env ns (some (.lst ops)) (some (.tup ds)) (some (.int long)) (some (.int tm)) (some (.tup [.int (m53 % 16), .int (1 + m54 % 99), .int tm, .tup ds])) none none none) (set_nx (by
      simp [f1, aCons, aNil, fVar, fC, f2, modD, intD, e53, e54, fTup, addD, env]))]
    rw [seq_nx (ρ' := env ns (some (.lst ops)) (some (.tup ds)) (some (.int long)) (some (.int tm)) (some (.tup [.int (m53 % 16), .int (1 + m54 % 99), .int tm, .tup ds])) (some (W line)) none none) (set_nx hdue)]
    rw [seq_nx (ρ' := env ns (some (.lst ops)) (some (.tup ds)) (some (.int long)) (some (.int tm)) (some (.tup [.int (m53 % 16), .int (1 + m54 % 99), .int tm, .tup ds])) (some (W line)) (some (W line)) none) (set_nx (by simp [f1, aCons, aNil, fVar, hsh, env]))]
    rw [seq_nx (ρ' := env ns (some (.lst ops)) (some (.tup ds)) (some (.int long)) (some (.int tm)) (some (.tup [.int (m53 % 16), .int (1 + m54 % 99), .int tm, .tup ds])) (some (W line)) (some (W line)) none) (by simp [lq8, sIf, fOr, fNot, fT, fIsi, fVar, isiD, f2, neD, sNil, env, W])]
    rw [seq_nx (ρ' := env ns (some (.lst ops)) (some (.tup ds)) (some (.int long)) (some (.int tm)) (some (.tup [.int (m53 % 16), .int (1 + m54 % 99), .int tm, .tup ds])) (some (W line)) (some (W line)) (some (.tup [.int (m53 % 16), .int (1 + m54 % 99), .int tm, .tup ds]))) (set_nx (by simp [f1, aCons, aNil, fVar, hrd, env]))]
    simp [lq10, sRet, fAndV, fT, fIsi, fVar, isiD, f2, fC, ixD, atI, ixN, heq, f1, aCons, aNil, htup, env]
  unfold g_law runQ
  rw [if_pos (by rfl)]
  show (match q_law t [some (scr ns), none, none, none, none, none, none, none, none] with | some (.rt d) => some d | some (.nx _) => some .non | none => none) = _
  rw [goal]
end K02
open PySem PySem.W PyProof.Rows
set_option maxRecDepth 100000 in
set_option maxHeartbeats 0 in
theorem PySem.Challenge.cw_manyhands_k02_lines_holds : PySem.Challenge.rw_manyhands_k02_lines.Holds := by
  w_on; o_law; k_head; (case hw => w_witness2)
  k_fill
  refine L2.walk_ofK (l := PySem.Challenge.rw_manyhands_k02_lines) (n := 63) (k := 10) (x := "_law_script") (CX := L2.CX0) (sp := K02.spLaw) rfl (by decide) rfl ⟨rfl, by decide, by decide⟩ (fun w h Y => PySem.W.kIn_of Y) ?F (fun K H a ns hl _ hS t nd => DL.law_sp hS (K02.law_true t nd ns hl)) (fun _ _ _ _ z => z)
  case F =>
    intro w mg fa h KX G hmg
    refine' K02.all_mk hmg ?d_is_whole ?d_is_below ?d_is_from_one ?d_is_name ?d_is_sign_name ?d_is_item ?d_is_sibling ?d_is_behind ?d_is_sign ?d_is_text ?d_is_place ?d_are_parts ?d_is_deed ?d_is_operation ?d_word_of ?d_shown ?d_number_of ?d_part_of ?d_deed_of ?d_read ?d_Lcell ?d_Lmix ?d_Litems ?d_Lsigns ?d_Ltext ?d_Lpick ?d_Ldeed ?d_Lworld ?d_Lword ?d_Ltuples ?dl ?b_abs ?b_all ?b_bool ?b_int ?b_isinstance ?b_len ?b_ord ?b_range ?b_str ?b_tuple ?b_zip ?c_HANDS ?c_SIGNS ?c_PLACES ?c_LEFT_OUT ?a_is_item ?a_is_sibling ?a_is_behind ?a_is_text ?a_is_sign_name ?a_is_from_one ?a_is_place ?a_is_whole ?a_is_name ?gp ?nd
    (case d_is_whole => (refine' DL.def_mk KX G ?a ?l ?c ?k ?b; (case a => k_is); (case l => k_is); (case c => k_is); (case k => k_is); (case b => exact fun _ _ _ _ _ _ us hl => match us, hl with | [_], _ => rfl)))
    (case d_is_below => (refine' DL.def_mk KX G ?a ?l ?c ?k ?b; (case a => k_is); (case l => k_is); (case c => k_is); (case k => k_is); (case b => exact fun _ _ _ _ _ _ us hl => match us, hl with | [_, _], _ => rfl)))
    (case d_is_from_one => (refine' DL.def_mk KX G ?a ?l ?c ?k ?b; (case a => k_is); (case l => k_is); (case c => k_is); (case k => k_is); (case b => exact fun _ _ _ _ _ _ us hl => match us, hl with | [_], _ => rfl)))
    (case d_is_name => (refine' DL.def_mk KX G ?a ?l ?c ?k ?b; (case a => k_is); (case l => k_is); (case c => k_is); (case k => k_is); (case b => exact fun _ _ _ _ _ _ us hl => match us, hl with | [_], _ => rfl)))
    (case d_is_sign_name => (refine' DL.def_mk KX G ?a ?l ?c ?k ?b; (case a => k_is); (case l => k_is); (case c => k_is); (case k => k_is); (case b => exact fun _ _ _ _ _ _ us hl => match us, hl with | [_], _ => rfl)))
    (case d_is_item => (refine' DL.def_mk KX G ?a ?l ?c ?k ?b; (case a => k_is); (case l => k_is); (case c => k_is); (case k => k_is); (case b => exact fun _ _ _ _ _ _ us hl => match us, hl with | [_], _ => rfl)))
    (case d_is_sibling => (refine' DL.def_mk KX G ?a ?l ?c ?k ?b; (case a => k_is); (case l => k_is); (case c => k_is); (case k => k_is); (case b => exact fun _ _ _ _ _ _ us hl => match us, hl with | [_], _ => rfl)))
    (case d_is_behind => (refine' DL.def_mk KX G ?a ?l ?c ?k ?b; (case a => k_is); (case l => k_is); (case c => k_is); (case k => k_is); (case b => exact fun _ _ _ _ _ _ us hl => match us, hl with | [_], _ => rfl)))
    (case d_is_sign => (refine' DL.def_mk KX G ?a ?l ?c ?k ?b; (case a => k_is); (case l => k_is); (case c => k_is); (case k => k_is); (case b => exact fun _ _ _ _ _ _ us hl => match us, hl with | [_], _ => rfl)))
    (case d_is_text => (refine' DL.def_mk KX G ?a ?l ?c ?k ?b; (case a => k_is); (case l => k_is); (case c => k_is); (case k => k_is); (case b => exact fun _ _ _ _ _ _ us hl => match us, hl with | [_], _ => rfl)))
    (case d_is_place => (refine' DL.def_mk KX G ?a ?l ?c ?k ?b; (case a => k_is); (case l => k_is); (case c => k_is); (case k => k_is); (case b => exact fun _ _ _ _ _ _ us hl => match us, hl with | [_], _ => rfl)))
    (case d_are_parts => (refine' DL.def_mk KX G ?a ?l ?c ?k ?b; (case a => k_is); (case l => k_is); (case c => k_is); (case k => k_is); (case b => exact fun _ _ _ _ _ _ us hl => match us, hl with | [_, _], _ => rfl)))
    (case d_is_deed => (refine' DL.def_mk KX G ?a ?l ?c ?k ?b; (case a => k_is); (case l => k_is); (case c => k_is); (case k => k_is); (case b => exact fun _ _ _ _ _ _ us hl => match us, hl with | [_], _ => rfl)))
    (case d_is_operation => (refine' DL.def_mk KX G ?a ?l ?c ?k ?b; (case a => k_is); (case l => k_is); (case c => k_is); (case k => k_is); (case b => exact fun _ _ _ _ _ _ us hl => match us, hl with | [_], _ => rfl)))
    (case d_word_of => (refine' DL.def_mk KX G ?a ?l ?c ?k ?b; (case a => k_is); (case l => k_is); (case c => k_is); (case k => k_is); (case b => exact fun _ _ _ _ _ _ us hl => match us, hl with | [_], _ => rfl)))
    (case d_shown => (refine' DL.def_mk KX G ?a ?l ?c ?k ?b; (case a => k_is); (case l => k_is); (case c => k_is); (case k => k_is); (case b => exact fun _ _ _ _ _ _ us hl => match us, hl with | [_], _ => rfl)))
    (case d_number_of => (refine' DL.def_mk KX G ?a ?l ?c ?k ?b; (case a => k_is); (case l => k_is); (case c => k_is); (case k => k_is); (case b => exact fun _ _ _ _ _ _ us hl => match us, hl with | [_], _ => rfl)))
    (case d_part_of => (refine' DL.def_mk KX G ?a ?l ?c ?k ?b; (case a => k_is); (case l => k_is); (case c => k_is); (case k => k_is); (case b => exact fun _ _ _ _ _ _ us hl => match us, hl with | [_], _ => rfl)))
    (case d_deed_of => (refine' DL.def_mk KX G ?a ?l ?c ?k ?b; (case a => k_is); (case l => k_is); (case c => k_is); (case k => k_is); (case b => exact fun _ _ _ _ _ _ us hl => match us, hl with | [_], _ => rfl)))
    (case d_read => (refine' DL.def_mk KX G ?a ?l ?c ?k ?b; (case a => k_is); (case l => k_is); (case c => k_is); (case k => k_is); (case b => exact fun _ _ _ _ _ _ us hl => match us, hl with | [_], _ => rfl)))
    (case d_Lcell => (refine' DL.def_mk KX G ?a ?l ?c ?k ?b; (case a => k_is); (case l => k_is); (case c => k_is); (case k => k_is); (case b => exact fun _ _ _ _ _ _ us hl => match us, hl with | [_, _], _ => rfl)))
    (case d_Lmix => (refine' DL.def_mk KX G ?a ?l ?c ?k ?b; (case a => k_is); (case l => k_is); (case c => k_is); (case k => k_is); (case b => exact fun _ _ _ _ _ _ us hl => match us, hl with | [_, _], _ => rfl)))
    (case d_Litems => (refine' DL.def_mk KX G ?a ?l ?c ?k ?b; (case a => k_is); (case l => k_is); (case c => k_is); (case k => k_is); (case b => exact fun _ _ _ _ _ _ us hl => match us, hl with | [_], _ => rfl)))
    (case d_Lsigns => (refine' DL.def_mk KX G ?a ?l ?c ?k ?b; (case a => k_is); (case l => k_is); (case c => k_is); (case k => k_is); (case b => exact fun _ _ _ _ _ _ us hl => match us, hl with | [_], _ => rfl)))
    (case d_Ltext => (refine' DL.def_mk KX G ?a ?l ?c ?k ?b; (case a => k_is); (case l => k_is); (case c => k_is); (case k => k_is); (case b => exact fun _ _ _ _ _ _ us hl => match us, hl with | [_, _], _ => rfl)))
    (case d_Lpick => (refine' DL.def_mk KX G ?a ?l ?c ?k ?b; (case a => k_is); (case l => k_is); (case c => k_is); (case k => k_is); (case b => exact fun _ _ _ _ _ _ us hl => match us, hl with | [_, _], _ => rfl)))
    (case d_Ldeed => (refine' DL.def_mk KX G ?a ?l ?c ?k ?b; (case a => k_is); (case l => k_is); (case c => k_is); (case k => k_is); (case b => exact fun _ _ _ _ _ _ us hl => match us, hl with | [_, _, _, _], _ => rfl)))
    (case d_Lworld => (refine' DL.def_mk KX G ?a ?l ?c ?k ?b; (case a => k_is); (case l => k_is); (case c => k_is); (case k => k_is); (case b => exact fun _ _ _ _ _ _ us hl => match us, hl with | [_, _, _], _ => rfl)))
    (case d_Lword => (refine' DL.def_mk KX G ?a ?l ?c ?k ?b; (case a => k_is); (case l => k_is); (case c => k_is); (case k => k_is); (case b => exact fun _ _ _ _ _ _ us hl => match us, hl with | [_], _ => rfl)))
    (case d_Ltuples => (refine' DL.def_mk KX G ?a ?l ?c ?k ?b; (case a => k_is); (case l => k_is); (case c => k_is); (case k => k_is); (case b => exact fun _ _ _ _ _ _ us hl => match us, hl with | [_], _ => rfl)))
    (case dl => (refine' DL.defL_mk KX G ?a ?l ?c ?k ?b; (case a => k_is); (case l => k_is); (case c => k_is); (case k => k_is); (case b => exact fun _ _ _ _ _ _ us hl => match us, hl with | [_], _ => rfl)))
    (case b_abs => (refine' DL.gnone_mk KX G ?a; (case a => k_is)))
    (case b_all => (refine' DL.gnone_mk KX G ?a; (case a => k_is)))
    (case b_bool => (refine' DL.gnone_mk KX G ?a; (case a => k_is)))
    (case b_int => (refine' DL.gnone_mk KX G ?a; (case a => k_is)))
    (case b_isinstance => (refine' DL.gnone_mk KX G ?a; (case a => k_is)))
    (case b_len => (refine' DL.gnone_mk KX G ?a; (case a => k_is)))
    (case b_ord => (refine' DL.gnone_mk KX G ?a; (case a => k_is)))
    (case b_range => (refine' DL.gnone_mk KX G ?a; (case a => k_is)))
    (case b_str => (refine' DL.gnone_mk KX G ?a; (case a => k_is)))
    (case b_tuple => (refine' DL.gnone_mk KX G ?a; (case a => k_is)))
    (case b_zip => (refine' DL.gnone_mk KX G ?a; (case a => k_is)))
    (case c_HANDS => (refine' DL.gint_mk KX G ?a; (case a => k_is)))
    (case c_SIGNS => (refine' DL.gint_mk KX G ?a; (case a => k_is)))
    (case c_PLACES => (refine' DL.gint_mk KX G ?a; (case a => k_is)))
    (case c_LEFT_OUT => (refine' DL.gint_mk KX G ?a; (case a => k_is)))
    (case a_is_item => (refine' DL.gref_mk KX G ?a; (case a => k_is)))
    (case a_is_sibling => (refine' DL.gref_mk KX G ?a; (case a => k_is)))
    (case a_is_behind => (refine' DL.gref_mk KX G ?a; (case a => k_is)))
    (case a_is_text => (refine' DL.gref_mk KX G ?a; (case a => k_is)))
    (case a_is_sign_name => (refine' DL.gref_mk KX G ?a; (case a => k_is)))
    (case a_is_from_one => (refine' DL.gref_mk KX G ?a; (case a => k_is)))
    (case a_is_place => (refine' DL.gref_mk KX G ?a; (case a => k_is)))
    (case a_is_whole => (refine' DL.gref_mk KX G ?a; (case a => k_is)))
    (case a_is_name => (refine' DL.gref_mk KX G ?a; (case a => k_is)))
    (case gp => (refine' K02.gparts_mk KX G ?ga ?gl ?gs ?l0 ?l1 ?l2 ?l3 ?l4 ?l5 ?l6 ?l7; (case ga => k_is); (case gl => k_is); (case gs => decide); (case l0 => k_is); (case l1 => k_is); (case l2 => k_is); (case l3 => k_is); (case l4 => k_is); (case l5 => k_is); (case l6 => k_is); (case l7 => k_is)))
    (case nd => (unfold K02.Adr.nd; decide))
