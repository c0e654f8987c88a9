import PyProof.Rows.All
import Wide.All
import OpenK.AllK
import Wide.FinOn
import PyProof.EqAt
import PyProof.EqKinds
import PyProof.TupleCall
import KE.BitLaws
import Sf83Spec
import PySem.Challenge.RW_sealedstream_s01_answers
import PySf83
import Open.SpecLaws
import KE.OsHead
import KE.OsGo
set_option Elab.async false
set_option linter.all false
set_option maxRecDepth 100000
namespace L2
open PySem PySem.Spec PyProof.Rows
abbrev Key := Sum Int Str
def keyIs : Key → Value → Bool
  | .inl k, v => Value.isInt k v
  | .inr x, v => Value.isStrOf x v
def keyH (w : World) : Key → Int
  | .inl k => hashInt k
  | .inr x => hashStr w x
theorem keyIs_shape : ∀ {k : Key} {v : Value}, keyIs k v = true → (∃ i t, k = Sum.inl i ∧ v = Value.int i t) ∨ (∃ x t, k = Sum.inr x ∧ v = Value.str x t)
  | .inl i, v, h => by
    obtain ⟨t, e⟩ := Value.isInt_shape (k := i) (v := v) h
    exact .inl ⟨i, t, rfl, e⟩
  | .inr x, v, h => by
    obtain ⟨t, e⟩ := Value.isStrOf_shape (x := x) (v := v) h
    exact .inr ⟨x, t, rfl, e⟩
theorem key_ll (a b : Int) : decide ((Sum.inl a : Key) = Sum.inl b) = (a == b) := by
  by_cases e : a = b
  · subst e; simp
  · have h : ¬ (Sum.inl a : Key) = Sum.inl b := fun q => e (Sum.inl.inj q)
    rw [decide_eq_false h]
    exact (beq_eq_false_iff_ne.mpr e).symm
theorem key_rr (a b : Str) : decide ((Sum.inr a : Key) = Sum.inr b) = decide (a = b) := by
  by_cases e : a = b
  · subst e; simp
  · have h : ¬ (Sum.inr a : Key) = Sum.inr b := fun q => e (Sum.inr.inj q)
    rw [decide_eq_false h, decide_eq_false e]
theorem key_lr (a : Int) (b : Str) : decide ((Sum.inl a : Key) = Sum.inr b) = false := decide_eq_false (fun q => nomatch q)
theorem key_rl (a : Str) (b : Int) : decide ((Sum.inr a : Key) = Sum.inl b) = false := decide_eq_false (fun q => nomatch q)
def mixKind (prog : Program) (w : World) : PySem.KeyKind prog w Key where
  is := keyIs
  hash := keyH w
  inj := fun v a b ha hb => by
    rcases keyIs_shape ha with ⟨i, t, rfl, rfl⟩ | ⟨x, t, rfl, rfl⟩
    · rcases keyIs_shape hb with ⟨j, u, rfl, e⟩ | ⟨y, u, rfl, e⟩
      · injection e with e1 _; rw [e1]
      · exact nomatch e
    · rcases keyIs_shape hb with ⟨j, u, rfl, e⟩ | ⟨y, u, rfl, e⟩
      · exact nomatch e
      · injection e with e1 _; rw [e1]
  byValue := fun k v h => by
    rcases keyIs_shape h with ⟨i, t, rfl, rfl⟩ | ⟨x, t, rfl, rfl⟩ <;> rfl
  pyHash := fun hv h => by
    rcases keyIs_shape hv with ⟨i, t, rfl, rfl⟩ | ⟨x, t, rfl, rfl⟩
    · exact wpAny_pyHash_int h
    · exact wpAny_pyHash_str h
  eqBool := fun hu hv h => by
    rcases keyIs_shape hu with ⟨i, t, rfl, rfl⟩ | ⟨x, t, rfl, rfl⟩
    · rcases keyIs_shape hv with ⟨j, u, rfl, rfl⟩ | ⟨y, u, rfl, rfl⟩
      · rw [key_ll] at h; exact wpAny_eqBool_int h
      · rw [key_lr] at h; exact SeqAt.EqAt.int_str i t y u _ _ _ _ h
    · rcases keyIs_shape hv with ⟨j, u, rfl, rfl⟩ | ⟨y, u, rfl, rfl⟩
      · rw [key_rl] at h; exact SeqAt.EqAt.str_int x t j u _ _ _ _ h
      · rw [key_rr] at h; exact wpAny_eqBool_str h
  «strs» := fun k x t v h => by
    rcases keyIs_shape h with ⟨i, u, rfl, e⟩ | ⟨y, u, rfl, e⟩
    · exact nomatch e
    · injection e with e1 _
      subst e1
      cases v <;> rfl
inductive V where
  | non | bl (b : Bool) | int (i : Int) | str (x : Str) | byt (b : Array UInt8) | flt (b : UInt64) | ref (a : Addr) | ty (n : String)
  deriving DecidableEq
def RelV : V → Value → Prop
  | .non, u => u = Value.none
  | .bl b, u => u = Value.bool b
  | .int i, u => ∃ t, u = Value.int i t
  | .str x, u => ∃ t, u = Value.str x t
  | .byt b, u => ∃ t, u = Value.bytes b t
  | .flt b, u => ∃ t, u = Value.float b t
  | .ref a, u => u = Value.ref a
  | .ty n, u => u = Value.type n
abbrev Vals : List V → List Value → Prop := Paired RelV
theorem Vals.length {xs : List V} {us : List Value} (r : Vals xs us) : xs.length = us.length := Paired.length r
theorem Vals.get : ∀ {xs : List V} {us : List Value} {i : Nat} {x : V}, Vals xs us → xs[i]? = some x → ∃ u, us[i]? = some u ∧ RelV x u
  | _, _, _, _, .nil, e => by simp at e
  | _, _, 0, _, .cons r _, e => by simp at e; subst e; exact ⟨_, rfl, r⟩
  | _, _, i + 1, x, .cons _ t, e => by
    obtain ⟨u, h1, h2⟩ := Vals.get (i := i) (x := x) t (by simpa using e)
    exact ⟨u, by simpa using h1, h2⟩
theorem Vals.set {x : V} {u : Value} (r : RelV x u) : ∀ {xs : List V} {us : List Value} (i : Nat), Vals xs us → Vals (xs.set i x) (us.set i u)
  | _, _, _, .nil => .nil
  | _, _, 0, .cons _ t => .cons r t
  | _, _, i + 1, .cons q t => .cons q (Vals.set r i t)
theorem Vals.append : ∀ {xs ys : List V} {us ws : List Value}, Vals xs us → Vals ys ws → Vals (xs ++ ys) (us ++ ws)
  | _, _, _, _, .nil, s => s
  | _, _, _, _, .cons r t, s => .cons r (Vals.append t s)
theorem Vals.take : ∀ {xs : List V} {us : List Value} (n : Nat), Vals xs us → Vals (xs.take n) (us.take n)
  | _, _, 0, _ => .nil
  | _, _, _ + 1, .nil => .nil
  | _, _, n + 1, .cons r t => .cons r (Vals.take n t)
theorem Vals.drop : ∀ {xs : List V} {us : List Value} (n : Nat), Vals xs us → Vals (xs.drop n) (us.drop n)
  | _, _, 0, r => r
  | _, _, _ + 1, .nil => .nil
  | _, _, n + 1, .cons _ t => Vals.drop n t
def RelO : Option V → Option Value → Prop
  | some v, some u => RelV v u
  | none, none => True
  | _, _ => False
def KV {κ : Type} : List (κ × V) → List (κ × Value) → Prop := Paired fun (p : κ × V) (q : κ × Value) => p.1 = q.1 ∧ RelV p.2 q.2
def kV : Key → V
  | .inl i => .int i
  | .inr x => .str x
inductive HO where
    | lst (xs : List V)
    | tup (xs : List V)
    | dK (kvs : List (Key × V)) | dT (kvs : List (List Key × V))
    | set (S : Int → Bool) (n : Nat)
    | ins (C dx : Addr) (fs : List (Str × V))
    | own (x : Addr)
    | xd (fs : List (Str × V))
    | met (f x : Addr)
    | rng (lo hi : Int)
    | frz (o : Obj) (u : HO)
    | tbl (ps : Array Value)
    | ext (φ : Heap → Prop)
abbrev Hp := Addr → Option HO
def upd (H : Hp) (a : Addr) (o : HO) : Hp := fun b => if b = a then some o else H b
theorem upd_same {H : Hp} {a : Addr} {o : HO} : upd H a o a = some o := by unfold upd; rw [if_pos rfl]
theorem upd_ne {H : Hp} {a b : Addr} {o : HO} (h : b ≠ a) : upd H a o b = H b := by unfold upd; rw [if_neg h]
theorem upd_upd {H : Hp} {a : Addr} {o u : HO} : upd (upd H a o) a u = upd H a u := by
  funext b; unfold upd; split <;> rfl
theorem ne_of {H : Hp} {a b : Addr} {o u : HO} (h : H a = some o) (h' : H b = some u) (d : o ≠ u) : a ≠ b := by
  intro e; subst e; rw [h] at h'; exact d (Option.some.inj h')
theorem ne_of_none {H : Hp} {a b : Addr} {o : HO} (h : H a = some o) (h' : H b = none) : a ≠ b := by
  intro e; subst e; rw [h] at h'; cases h'
section
variable (P : Program) (w : World)
def ObjOk (H : Hp) (h : Heap) (a : Addr) : HO → Prop
  | .lst xs => xs.length ≤ sizeLine ∧ ∃ (its : List Value) (n : Nat), Vals xs its ∧ h.get? a = some { cls := .type "list", data := .seq its.toArray n }
  | .tup xs => xs.length ≤ sizeLine ∧ ∃ its : List Value, Vals xs its ∧ IsTup h a its.toArray
  | .dK kvs => kvs.length ≤ sizeLine ∧ (a == sysModules) = false ∧ ∃ vs, KV kvs vs ∧ h.DictOf (mixKind P w) a vs
  | .dT kvs => kvs.length ≤ sizeLine ∧ (a == sysModules) = false ∧ ∃ xs : List (List Key × Addr × Value),
      Paired (fun (p : List Key × V) (q : List Key × Addr × Value) => p.1 = q.1 ∧ H q.2.1 = some (.tup (p.1.map kV)) ∧ RelV p.2 q.2.2) kvs xs ∧
      ∃ o es ep, h.get? a = some o ∧ o.ExactDict ∧ o.data = .dict es ep ∧ es.toList = xs.map (entryOfKey (tupleKind (mixKind P w))) ∧ (xs.map (·.1)).Nodup
  | .set S n => h.SetOf (intKind P w) a S n
  | .ins C dx fs => H dx = some (.own a) ∧ fs.length ≤ 1000 ∧ dx ≠ a ∧ h.get? a = some (PySem.W.instObj C dx) ∧
      ∃ mA, h.Ns1 dx mA ∧ (∀ f, RelO (fs.lookup f) (mA f)) ∧ PySem.Within mA (fs.map (·.1))
  | .own _ => ∃ o, h.get? a = some o
  | .xd fs => ∃ mA, h.Ns1 a mA ∧ ∀ f, RelO (fs.lookup f) (mA f)
  | .rng lo hi => ∃ t u v, h.get? a = some { cls := .type "range", data := .fields #[.int lo t, .int hi u, .int 1 v] }
  | .frz o u => h.get? a = some o ∧ ObjOk H h a u
  | .tbl ps => h.get? a = some { cls := .none, data := .fields ps }
  | .met f x => h.get? a = some (PySem.W.methodObj (.ref f) (.ref x))
  | .ext φ => φ h ∧ (∃ o, h.get? a = some o) ∧ ∀ h1 h2 : Heap, φ h1 → (∀ o, h1.get? a = some o → h2.get? a = some o) → φ h2
def HOk (H : Hp) (h : Heap) : Prop := ∀ a o, H a = some o → ObjOk P w H h a o
end
section
variable {P : Program} {w : World} {H H' : Hp} {h h' : Heap} {a : Addr} {o : HO}
theorem ObjOk.lt (x : ObjOk P w H h a o) : a < h.objs.size := by
  cases o with
  | lst xs => obtain ⟨_, _, _, _, e⟩ := x; exact Heap.lt_size e
  | tup xs => obtain ⟨_, _, _, p⟩ := x; exact p.lt
  | dK kvs => obtain ⟨_, _, _, _, o, _, _, e, _⟩ := x; exact Heap.lt_size e
  | dT kvs => obtain ⟨_, _, _, _, o, _, _, e, _⟩ := x; exact Heap.lt_size e
  | set S n => obtain ⟨o, _, _, _, e, _⟩ := x; exact Heap.lt_size e
  | ins C dx fs => obtain ⟨_, _, _, e, _⟩ := x; exact Heap.lt_size e
  | own y => obtain ⟨_, e⟩ := x; exact Heap.lt_size e
  | xd fs => obtain ⟨_, ⟨_, _, _, e, _⟩, _⟩ := x; exact Heap.lt_size e
  | rng lo hi => obtain ⟨_, _, _, e⟩ := x; exact Heap.lt_size e
  | frz ob u => obtain ⟨e, _⟩ := x; exact Heap.lt_size e
  | tbl ps => exact Heap.lt_size (show h.get? a = some _ from x)
  | met f y => exact Heap.lt_size (show h.get? a = some _ from x)
  | ext φ => obtain ⟨_, ⟨_, e⟩, _⟩ := x; exact Heap.lt_size e
theorem Paired.mapP {α β : Type} {F G : α → β → Prop} : ∀ {l₁ : List α} {l₂ : List β}, Paired F l₁ l₂ → (∀ a b, F a b → G a b) → Paired G l₁ l₂
  | _, _, .nil, _ => .nil
  | _, _, .cons r t, f => .cons (f _ _ r) (Paired.mapP t f)
theorem ObjOk.stay (x : ObjOk P w H h a o) (k : ∀ b u, (b = a ∨ H b = some (.own a)) → h.get? b = some u → h'.get? b = some u)
    (ho : ∀ b, H b = some (.own a) → H' b = some (.own a)) (ht : ∀ b xs, H b = some (.tup xs) → H' b = some (.tup xs)) : ObjOk P w H' h' a o := by
  induction o with
  | lst xs => obtain ⟨z, its, n, r, e⟩ := x; exact ⟨z, its, n, r, k _ _ (.inl rfl) e⟩
  | tup xs => obtain ⟨z, its, r, ob, e, c⟩ := x; exact ⟨z, its, r, ob, k _ _ (.inl rfl) e, c⟩
  | dK kvs => obtain ⟨z, y, vs, r, ob, es, ep, e, c⟩ := x; exact ⟨z, y, vs, r, ob, es, ep, k _ _ (.inl rfl) e, c⟩
  | dT kvs =>
    obtain ⟨z, y, xs, r, ob, es, ep, e, c⟩ := x
    exact ⟨z, y, xs, Paired.mapP r fun p q z => ⟨z.1, ht _ _ z.2.1, z.2.2⟩, ob, es, ep, k _ _ (.inl rfl) e, c⟩
  | set S n => obtain ⟨ob, es, ep, t, e, c⟩ := x; exact ⟨ob, es, ep, t, k _ _ (.inl rfl) e, c⟩
  | ins C dx fs =>
    obtain ⟨d, z, ne, e, mA, ⟨od, es, ep, e2, c⟩, r⟩ := x
    exact ⟨ho _ d, z, ne, k _ _ (.inl rfl) e, mA, ⟨od, es, ep, k _ _ (.inr d) e2, c⟩, r⟩
  | own y => obtain ⟨ob, e⟩ := x; exact ⟨ob, k _ _ (.inl rfl) e⟩
  | xd fs => obtain ⟨mA, ⟨od, es, ep, e, c⟩, r⟩ := x; exact ⟨mA, ⟨od, es, ep, k _ _ (.inl rfl) e, c⟩, r⟩
  | rng lo hi => obtain ⟨t, u, v, e⟩ := x; exact ⟨t, u, v, k _ _ (.inl rfl) e⟩
  | frz ob u ih => obtain ⟨e, q⟩ := x; exact ⟨k _ _ (.inl rfl) e, ih q⟩
  | tbl ps =>
    have e : h.get? a = some { cls := .none, data := .fields ps } := x
    show h'.get? a = some { cls := .none, data := .fields ps }
    exact k a _ (.inl rfl) e
  | met f y =>
    have e : h.get? a = some (PySem.W.methodObj (.ref f) (.ref y)) := x
    show h'.get? a = some (PySem.W.methodObj (.ref f) (.ref y))
    exact k a _ (.inl rfl) e
  | ext φ => obtain ⟨p, ⟨o, e⟩, st⟩ := x; exact ⟨st _ _ p fun o q => k _ _ (.inl rfl) q, ⟨o, k _ _ (.inl rfl) e⟩, st⟩
theorem HOk.lt (x : HOk P w H h) (e : H a = some o) : a < h.objs.size := (x a o e).lt
theorem HOk.fresh (x : HOk P w H h) (e : h.objs.size ≤ a) : H a = none := by
  cases q : H a with
  | none => rfl
  | some u => exact absurd (Nat.lt_of_lt_of_le (x.lt q) e) (Nat.lt_irrefl _)
theorem HOk.kept (x : HOk P w H h) (k : ∀ b u, h.get? b = some u → h'.get? b = some u) : HOk P w H h' := fun a o e =>
  (x a o e).stay (fun b u _ q => k b u q) (fun _ q => q) fun _ _ q => q
theorem HOk.laid (x : HOk P w H h) (k : ∀ b u, h.get? b = some u → h'.get? b = some u) (hp : h.objs.size ≤ a) (new : ObjOk P w (upd H a o) h' a o) : HOk P w (upd H a o) h' := fun b u e => by
  have hn := x.fresh hp
  by_cases hb : b = a
  · subst hb; rw [upd_same] at e; cases e; exact new
  · rw [upd_ne hb] at e
    exact (x b u e).stay (fun c v _ q => k c v q) (fun c q => by rw [upd_ne (ne_of_none q hn)]; exact q) fun c xs q => by rw [upd_ne (ne_of_none q hn)]; exact q
end
def Rd (H : Hp) (a : Addr) (u : HO) : Prop := H a = some u ∨ ∃ o, H a = some (.frz o u)
theorem Rd.ok {P : Program} {w : World} {H : Hp} {h : Heap} {a : Addr} {u : HO} (r : Rd H a u) (x : HOk P w H h) : ObjOk P w H h a u := by
  rcases r with r | ⟨o, r⟩
  · exact x a u r
  · obtain ⟨_, q⟩ := x a _ r
    exact q
def Mut : Option HO → Prop
  | some (.lst _) => True
  | some (.dK _) => True
  | some (.dT _) => True
  | some (.set _ _) => True
  | some (.ins _ _ _) => True
  | some (.ext _) => True
  | _ => False
section
variable {P : Program} {w : World} {H : Hp} {h h' : Heap} {x e : Addr} {o' : HO}
theorem HOk.write (ok : HOk P w H h) (mu : Mut (H x)) (he : e = x ∨ H e = some (.own x)) (k : ∀ b u, b ≠ e → h.get? b = some u → h'.get? b = some u) (heo : ∃ u, h'.get? e = some u)
    (new : ObjOk P w (upd H x o') h' x o') : HOk P w (upd H x o') h' := fun b u q => by
  have nown : ∀ c y, H c = some (.own y) → c ≠ x := fun c y r z => by subst z; rw [r] at mu; exact mu
  have ntup : ∀ c xs, H c = some (.tup xs) → c ≠ x := fun c xs r z => by subst z; rw [r] at mu; exact mu
  by_cases hb : b = x
  · subst hb; rw [upd_same] at q; cases q; exact new
  · rw [upd_ne hb] at q
    by_cases hbe : b = e
    · have q' : H b = some (.own x) := by
        rcases he with z | z
        · exact absurd (hbe.trans z) hb
        · rw [hbe]; exact z
      rw [q] at q'; cases q'
      obtain ⟨v, hv⟩ := heo
      exact ⟨v, by rw [hbe]; exact hv⟩
    · refine (ok b u q).stay (fun c v hc r => k c v ?_ r) (fun c r => by rw [upd_ne (nown c b r)]; exact r) fun c xs r => by rw [upd_ne (ntup c xs r)]; exact r
      rcases hc with rfl | hc
      · exact hbe
      · rintro rfl
        rcases he with z | z
        · exact nown c b hc z
        · rw [hc] at z; cases z; exact hb rfl
end
structure Un (fs ex : List Addr) (H H' : Hp) (h h' : Heap) : Prop where
  keep : ∀ b o, h.get? b = some o → H b = none → b ∉ fs → b ∉ ex → h'.get? b = some o
  slot : ∀ b o, h.get? b = some o → H b = none → b ∈ fs → b ∉ ex → ∃ sl, h'.get? b = some { o with slots := sl }
  free : ∀ b o, h.get? b = some o → H b = none → b ∉ ex → H' b = none
  there : ∀ b o, h.get? b = some o → b ∉ ex → ∃ o', h'.get? b = some o'
  tups : ∀ b xs, H b = some (.tup xs) → H' b = some (.tup xs)
  frzs : ∀ b o u, H b = some (.frz o u) → H' b = some (.frz o u)
  tbls : ∀ b ps, H b = some (.tbl ps) → ∃ more, H' b = some (.tbl (ps ++ more))
section
variable {fs fs' ex ex' : List Addr} {H H1 H2 : Hp} {h h1 h2 h' : Heap} {a x e : Addr} {o : HO}
theorem Un.any (u : Un fs ex H H1 h h1) {b : Addr} {ob : Obj} (q : h.get? b = some ob) (n : H b = none) (hx : b ∉ ex) : ∃ sl, h1.get? b = some { ob with slots := sl } := by
  by_cases hb : b ∈ fs
  · exact u.slot b ob q n hb hx
  · exact ⟨ob.slots, u.keep b ob q n hb hx⟩
theorem Un.kept (k : ∀ b u, h.get? b = some u → h'.get? b = some u) : Un fs ex H H h h' :=
  ⟨fun b ob q _ _ _ => k b ob q, fun b ob q _ _ _ => ⟨ob.slots, k b ob q⟩, fun _ _ _ n _ => n, fun b ob q _ => ⟨ob, k b ob q⟩, fun _ _ q => q, fun _ _ _ q => q, fun _ ps q => ⟨#[], by rw [q]; simp⟩⟩
theorem Un.refl : Un fs ex H H h h := Un.kept fun _ _ q => q
theorem Un.laid (k : ∀ b u, h.get? b = some u → h'.get? b = some u) (hp : h.objs.size ≤ a) (hn : H a = none) : Un fs ex H (upd H a o) h h' where
  keep := fun b u q _ _ _ => k b u q
  slot := fun b u q _ _ _ => ⟨u.slots, k b u q⟩
  free := fun b u q n _ => by rw [upd_ne (Nat.ne_of_lt (Nat.lt_of_lt_of_le (Heap.lt_size q) hp))]; exact n
  there := fun b u q _ => ⟨u, k b u q⟩
  tups := fun b xs q => by rw [upd_ne (ne_of_none q hn)]; exact q
  frzs := fun b u xs q => by rw [upd_ne (ne_of_none q hn)]; exact q
  tbls := fun b ps q => ⟨#[], by rw [upd_ne (ne_of_none q hn), q]; simp⟩
theorem Un.write (mu : Mut (H x)) (he : e = x ∨ H e = some (.own x)) (k : ∀ b u, b ≠ e → h.get? b = some u → h'.get? b = some u) (heo : ∃ u, h'.get? e = some u) : Un fs ex H (upd H x o) h h' := by
  have hx : ∀ b, H b = none → b ≠ x := fun b n z => by subst z; rw [n] at mu; exact mu
  have hb : ∀ b, H b = none → b ≠ e := fun b n z => by
    subst z
    rcases he with r | r
    · exact hx b n r
    · rw [n] at r; cases r
  have hm : ∀ b u, H b = some u → ¬ Mut (some u) → b ≠ x := fun b u q nm z => by subst z; rw [q] at mu; exact nm mu
  refine ⟨fun b u q n _ _ => k b u (hb b n) q, fun b u q n _ _ => ⟨u.slots, k b u (hb b n) q⟩, fun b u q n _ => by rw [upd_ne (hx b n)]; exact n, fun b u q _ => ?_,
    fun b xs q => by rw [upd_ne (hm b _ q fun z => z)]; exact q, fun b u xs q => by rw [upd_ne (hm b _ q fun z => z)]; exact q, fun b ps q => ⟨#[], by rw [upd_ne (hm b _ q fun z => z), q]; simp⟩⟩
  by_cases hbe : b = e
  · subst hbe; exact heo
  · exact ⟨u, k b u hbe q⟩
end
def trk (h : Heap) (H : Hp) : List Addr := (List.range h.objs.size).filter fun a => (H a).isSome
def hidT (h : Heap) (H : Hp) : Heap := PySem.W.hideAll h (trk h H)
theorem hidT_size (h : Heap) (H : Hp) : (hidT h H).objs.size = h.objs.size := PySem.W.hideAll_size _ _
theorem hidT_get {h : Heap} {H : Hp} {b : Addr} {o : Obj} (e : h.get? b = some o) (n : H b = none) : (hidT h H).get? b = some o :=
  PySem.W.hideAll_get _ e fun hm => by
    have q : (H b).isSome = true := (List.mem_filter.mp hm).2
    rw [n] at q; simp at q
theorem of_hidT {h : Heap} {H : Hp} {b : Addr} {o : Obj} (e : (hidT h H).get? b = some o) : h.get? b = some o ∧ H b = none := by
  have e' : h.get? b = some o := PySem.W.of_hideAll (trk h H) e
  refine ⟨e', ?_⟩
  cases q : H b with
  | none => rfl
  | some x =>
    have hm : b ∈ trk h H := List.mem_filter.mpr ⟨List.mem_range.mpr (Heap.lt_size e'), by simp [q]⟩
    have z : (hidT h H).get? b = none := PySem.W.hideAll_none (trk h H) hm
    rw [z] at e; cases e
structure Mod (K : PySem.W.Frag) (mg : Str → Option Value) (base : Heap) : Prop where
  kin : K.In base
  glob : base.Ns mainGlobals mg
  blt : ∃ mb, base.Ns builtinsNs mb ∧ ∀ x : Str, x ≠ "__name__" → mb x = bootBuiltins x
  nolimit : base.NoLimit
structure Cx where
  prog : Program
  w : World
  K : PySem.W.Frag
  mg : Str → Option Value
  base : Heap
  A : Around
  N : List Str
  s_0 : Shared
  H_0 : Hp
  env : Env
  outer : List Env
  stack : List Env
  ex : List Addr
  fn : Str → Bool
  calm : Bool
  pn : List (Addr × Obj)
  xe : Value → Shared → Prop
def frs (l : List Env) : List Addr := l.filterMap (·.frame)
abbrev Cx.fs (X : Cx) : List Addr := frs X.outer
def Vis (sc : Scope) (x : Str) : Prop := sc.names.lookup x = some .local ∨ sc.names.lookup x = some .cell ∨ sc.names.lookup x = some .free
def Loc (sc : Scope) (x : Str) : Prop := sc.names.lookup x = some .local ∨ sc.names.lookup x = some .cell
def Look (env : Env) (h : Heap) (m : Str → Option Value) (x : Str) (u : Value) : Prop :=
  (env.kindOf x = some .local ∧ m x = some u) ∨ ((env.kindOf x = some .cell ∨ env.kindOf x = some .free) ∧ ∃ c, env.cells.lookup x = some c ∧ h.IsCell c (some u))
structure Cx.Ok (X : Cx) : Prop where
  mod : Mod X.K X.mg X.base
  kind : X.env.scope.kind = .function
  glob : X.env.globals = mainGlobals
  blt : X.env.builtins = builtinsNs
  above : X.s_0.heap.objs.size ≤ X.env.locals
  inj : ∀ x y c, X.env.cells.lookup x = some c → X.env.cells.lookup y = some c → x = y
  has : ∀ x, (X.env.kindOf x = some .cell ∨ X.env.kindOf x = some .free) → ∃ c, X.env.cells.lookup x = some c
  cab : ∀ x c, X.fn x = true → X.env.cells.lookup x = some c → X.s_0.heap.objs.size ≤ c
  hd : X.calm = true → X.A.handled = none
  frames : X.A.frames = some X.stack
  stk : X.stack = X.outer ∨ (X.stack = X.env :: X.outer ∧ X.env.frame = some X.env.locals)
  exf : ∀ b ∈ X.ex, b ≠ X.env.locals ∧ ∀ x c, X.env.cells.lookup x = some c → c ≠ b
  bs : ∀ b o, X.base.get? b = some o → X.s_0.heap.get? b = some o ∧ X.H_0 b = none
  bsz : X.base.objs.size ≤ X.s_0.heap.objs.size
  noex : ∀ b o, X.base.get? b = some o → b ∉ X.ex
  exfs : ∀ b ∈ X.ex, b ∉ X.fs
  funs : X.s_0.heap.FunFrames X.base X.outer
  frf : ∀ b ∈ X.fs, X.H_0 b = none
structure Inv (X : Cx) (pins : List (Addr × Obj)) (σ : List (Option V)) (H : Hp) (s : Shared) : Prop where
  ok : X.Ok
  os : s.os = X.s_0.os
  bare : AllBare s.gens
  base : Un X.fs X.ex X.H_0 H X.s_0.heap s.heap
  loc : ∃ m, s.heap.Ns X.env.locals m ∧ ∀ (i : Nat) (x : Str) (v : V), X.N[i]? = some x → σ[i]? = some (some v) → Vis X.env.scope x → ∃ u, RelV v u ∧ Look X.env s.heap m x u
  cell : ∀ x c, X.env.cells.lookup x = some c → ∃ v, s.heap.IsCell c v
  free : H X.env.locals = none
  freeC : ∀ x c, X.env.cells.lookup x = some c → H c = none
  pin : ∀ p ∈ X.pn ++ pins, s.heap.get? p.1 = some p.2 ∧ H p.1 = none ∧ p.1 ≠ X.env.locals ∧ p.1 ∉ X.fs ∧ ∀ v, p.2.data ≠ .cell v
  hok : HOk X.prog X.w H s.heap
  len : σ.length = X.N.length
section
variable {X : Cx} {pins : List (Addr × Obj)} {σ : List (Option V)} {H H' : Hp} {s : Shared} {h' : Heap}
theorem Cx.Ok.nofr (ok : X.Ok) {b : Addr} {o : Obj} (e : X.base.get? b = some o) : b ∉ X.fs := fun hb => by
  have := (ok.funs.mem hb).1
  rw [e] at this; cases this
theorem Inv.bs (I : Inv X pins σ H s) : ∀ b o, X.base.get? b = some o → s.heap.get? b = some o ∧ H b = none := fun b o e =>
  ⟨I.base.keep b o (I.ok.bs b o e).1 (I.ok.bs b o e).2 (I.ok.nofr e) (I.ok.noex b o e), I.base.free b o (I.ok.bs b o e).1 (I.ok.bs b o e).2 (I.ok.noex b o e)⟩
theorem Inv.bk (I : Inv X pins σ H s) : ∀ b o, X.base.get? b = some o → s.heap.get? b = some o := fun b o e => (I.bs b o e).1
theorem Inv.mod (I : Inv X pins σ H s) : Mod X.K X.mg X.base := I.ok.mod
theorem Inv.kIn (I : Inv X pins σ H s) : X.K.In s.heap := I.ok.mod.kin.keeps I.bk
theorem Inv.fr (I : Inv X pins σ H s) : ∃ m, Fr X.base X.env.locals s.heap m :=
  let ⟨m, hn, _⟩ := I.loc
  ⟨m, hn, I.bk, Nat.le_trans I.ok.bsz I.ok.above⟩
theorem Inv.lt (I : Inv X pins σ H s) : X.env.locals < s.heap.objs.size := let ⟨_, hn, _⟩ := I.loc; hn.lt
theorem Inv.sz (I : Inv X pins σ H s) : X.s_0.heap.objs.size ≤ s.heap.objs.size := Nat.le_trans I.ok.above (Nat.le_of_lt I.lt)
theorem Inv.nofs (I : Inv X pins σ H s) {a : Addr} (h : s.heap.objs.size ≤ a) : a ∉ X.fs := fun hb => by
  obtain ⟨_, o, ho, _⟩ := I.ok.funs.mem hb
  exact absurd (Nat.lt_of_lt_of_le (Heap.lt_size ho) (Nat.le_trans I.sz h)) (Nat.lt_irrefl _)
theorem Inv.cne (I : Inv X pins σ H s) : ∀ x c, X.env.cells.lookup x = some c → c ≠ X.env.locals := fun x c e z => by
  obtain ⟨v, o, ho, hd⟩ := I.cell x c e
  obtain ⟨m, ⟨o', es, ep, ho', hd', _⟩, _⟩ := I.loc
  rw [z, ho'] at ho; cases ho; rw [hd'] at hd; cases hd
theorem Inv.funs (I : Inv X pins σ H s) : s.heap.FunFrames X.base X.outer := by
  have all : ∀ (l : List Env), (∀ b ∈ frs l, b ∈ X.fs) → X.s_0.heap.FunFrames X.base l → s.heap.FunFrames X.base l := by
    intro l
    induction l with
    | nil => intro _ _; trivial
    | cons env r ih =>
      intro hs hl
      obtain ⟨hk, ⟨L, o, hf, hn, ho, hd⟩, hr⟩ := hl
      have hL : L ∈ X.fs := hs L (by unfold frs; rw [List.filterMap_cons, hf]; exact List.mem_cons_self)
      obtain ⟨sl, e⟩ := I.base.slot L o ho (I.ok.frf L hL) hL fun z => I.ok.exfs L z hL
      exact ⟨hk, ⟨L, _, hf, hn, e, hd⟩, ih (fun b hb => hs b (by unfold frs; rw [List.filterMap_cons, hf]; exact List.mem_cons_of_mem _ hb)) hr⟩
  exact all X.outer (fun _ hb => hb) I.ok.funs
theorem Inv.stack (I : Inv X pins σ H s) : s.heap.FunFrames X.base X.stack := by
  rcases I.ok.stk with e | ⟨e, hf⟩
  · rw [e]; exact I.funs
  · rw [e]
    obtain ⟨m, hn, _⟩ := I.loc
    refine .cons (by rw [I.ok.kind]; decide) hf hn ?_ I.funs
    exact Heap.get?_none_of_le (Nat.le_trans I.ok.bsz I.ok.above)
theorem Inv.stkSub (I : Inv X pins σ H s) : ∀ b ∈ frs X.stack, b ∈ X.env.locals :: X.fs := fun b hb => by
  rcases I.ok.stk with e | ⟨e, hf⟩
  · rw [e] at hb; exact List.mem_cons_of_mem _ hb
  · rw [e] at hb
    unfold frs at hb
    rw [List.filterMap_cons, hf] at hb
    exact hb
theorem Inv.stkFree (I : Inv X pins σ H s) : ∀ b ∈ frs X.stack, H b = none := fun b hb => by
  rcases List.mem_cons.mp (I.stkSub b hb) with e | hb
  · rw [e]; exact I.free
  · obtain ⟨_, o, ho, _⟩ := I.ok.funs.mem hb
    exact I.base.free b o ho (I.ok.frf b hb) fun z => I.ok.exfs b z hb
theorem Inv.step {g' : Array GenState} {t' : Nat} {d' : Drawn} {ch : List Addr} (I : Inv X pins σ H s)
    (hch : ∀ b ∈ ch, (b ∈ X.ex ∨ X.s_0.heap.objs.size ≤ b) ∧ b ≠ X.env.locals ∧ (∀ x c, X.env.cells.lookup x = some c → c ≠ b) ∧ ∀ p ∈ X.pn ++ pins, p.1 ≠ b)
    (keep : ∀ b o, b ≠ X.env.locals → b ∉ X.fs → b ∉ ch → s.heap.get? b = some o → H b = none → h'.get? b = some o)
    (slot : ∀ b o, b ≠ X.env.locals → b ∈ X.fs → b ∉ ch → s.heap.get? b = some o → H b = none → ∃ sl, h'.get? b = some { o with slots := sl }) (free : ∀ b o, b ∉ ch → s.heap.get? b = some o → H b = none → H' b = none)
    (there : ∀ b o, b ∉ ch → s.heap.get? b = some o → ∃ o', h'.get? b = some o')
    (tups : ∀ b xs, H b = some (.tup xs) → H' b = some (.tup xs)) (frzs : ∀ b o u, H b = some (.frz o u) → H' b = some (.frz o u)) (tbls : ∀ b ps, H b = some (.tbl ps) → ∃ more, H' b = some (.tbl (ps ++ more)))
    (ns : ∀ m, s.heap.Ns X.env.locals m → h'.Ns X.env.locals m) (hok : HOk X.prog X.w H' h') (hg : AllBare g') :
    Inv X pins σ H' { s with heap := h', gens := g', drawn := d', toks := t' } := by
  have neL : ∀ b o, X.s_0.heap.get? b = some o → b ≠ X.env.locals := fun b o e => Nat.ne_of_lt (Nat.lt_of_lt_of_le (Heap.lt_size e) I.ok.above)
  have neC : ∀ b o, X.s_0.heap.get? b = some o → b ∉ X.ex → b ∉ ch := fun b o e hx hb => by
    rcases (hch b hb).1 with z | z
    · exact hx z
    · exact absurd (Nat.lt_of_lt_of_le (Heap.lt_size e) z) (Nat.lt_irrefl _)
  have cellK : ∀ x c, X.env.cells.lookup x = some c → ∀ v, s.heap.IsCell c v → h'.IsCell c v := fun x c e v ⟨o, ho, hd⟩ => by
    have nch : c ∉ ch := fun z => (hch c z).2.2.1 x c e rfl
    by_cases hc : c ∈ X.fs
    · obtain ⟨sl, q⟩ := slot c o (I.cne x c e) hc nch ho (I.freeC x c e)
      exact ⟨_, q, hd⟩
    · exact ⟨o, keep c o (I.cne x c e) hc nch ho (I.freeC x c e), hd⟩
  refine ⟨I.ok, I.os, hg, ⟨fun b o e n hb hx => ?_, fun b o e n hb hx => ?_, fun b o e n hx => ?_, fun b o e hx => ?_, fun b xs e => tups b xs (I.base.tups b xs e), fun b o xs e => frzs b o xs (I.base.frzs b o xs e), fun b ps e => ?_⟩, ?_, fun x c e => ?_, ?_, fun x c e => ?_, fun p hp => ?_, hok, I.len⟩
  · exact keep b o (neL b o e) hb (neC b o e hx) (I.base.keep b o e n hb hx) (I.base.free b o e n hx)
  · obtain ⟨sl, e1⟩ := I.base.slot b o e n hb hx
    obtain ⟨sl', e2⟩ := slot b _ (neL b o e) hb (neC b o e hx) e1 (I.base.free b o e n hx)
    exact ⟨sl', e2⟩
  · obtain ⟨o', e1⟩ := I.base.there b o e hx
    exact free b o' (neC b o e hx) e1 (I.base.free b o e n hx)
  · obtain ⟨o', e1⟩ := I.base.there b o e hx
    exact there b o' (neC b o e hx) e1
  · obtain ⟨m1, e1⟩ := I.base.tbls b ps e
    obtain ⟨m2, e2⟩ := tbls b _ e1
    exact ⟨m1 ++ m2, by rw [e2, Array.append_assoc]⟩
  · obtain ⟨m, hn, hl⟩ := I.loc
    refine ⟨m, ns m hn, fun i x v e1 e2 e3 => ?_⟩
    obtain ⟨u, r, l⟩ := hl i x v e1 e2 e3
    refine ⟨u, r, ?_⟩
    rcases l with l | ⟨k, c, e, z⟩
    · exact .inl l
    · exact .inr ⟨k, c, e, cellK x c e _ z⟩
  · obtain ⟨v, z⟩ := I.cell x c e
    exact ⟨v, cellK x c e v z⟩
  · obtain ⟨m, ⟨o, _, _, ho, _⟩, _⟩ := I.loc
    exact free _ o (fun z => (hch _ z).2.1 rfl) ho I.free
  · obtain ⟨v, o, ho, hd⟩ := I.cell x c e
    exact free c o (fun z => (hch c z).2.2.1 x c e rfl) ho (I.freeC x c e)
  · obtain ⟨e, n, ne, nf, d⟩ := I.pin p hp
    have nch : p.1 ∉ ch := fun z => (hch p.1 z).2.2.2 p hp rfl
    exact ⟨keep p.1 p.2 ne nf nch e n, free p.1 p.2 nch e n, ne, nf, d⟩
theorem Inv.un {t' : Nat} (I : Inv X pins σ H s) (u : Un X.fs [] H H' s.heap h') (hok : HOk X.prog X.w H' h') : Inv X pins σ H' { s with heap := h', toks := t' } := by
  obtain ⟨m, ⟨o, es, ep, ho, r⟩, _⟩ := id I.loc
  obtain ⟨sl, hL⟩ := u.any ho I.free (by simp)
  exact I.step (g' := s.gens) (d' := s.drawn) (ch := []) (fun _ z => nomatch z) (fun b o _ hb _ e n => u.keep b o e n hb (by simp)) (fun b o _ hb _ e n => u.slot b o e n hb (by simp)) (fun b o _ e n => u.free b o e n (by simp)) (fun b o _ e => u.there b o e (by simp)) u.tups u.frzs u.tbls (fun m' hm => by
    obtain ⟨o', es', ep', ho', r'⟩ := hm
    rw [ho] at ho'; cases ho'
    exact ⟨_, es', ep', hL, r'⟩) hok I.bare
theorem Inv.call {g' : Array GenState} {t' : Nat} {d' : Drawn} {ch : List Addr} (I : Inv X pins σ H s) (u : Un (frs X.stack) ch H H' s.heap h') (hok : HOk X.prog X.w H' h') (hg : AllBare g')
    (hch : ∀ b ∈ ch, (b ∈ X.ex ∨ X.s_0.heap.objs.size ≤ b) ∧ b ≠ X.env.locals ∧ (∀ x c, X.env.cells.lookup x = some c → c ≠ b) ∧ ∀ p ∈ X.pn ++ pins, p.1 ≠ b) :
    Inv X pins σ H' { s with heap := h', gens := g', drawn := d', toks := t' } := by
  obtain ⟨m, ⟨o, es, ep, ho, r⟩, _⟩ := id I.loc
  obtain ⟨sl, hL⟩ := u.any ho I.free fun z => (hch _ z).2.1 rfl
  exact I.step (ch := ch) hch (fun b o hL hb hc e n => u.keep b o e n (fun z => (List.mem_cons.mp (I.stkSub b z)).elim hL hb) hc) (fun b o _ _ hc e n => u.any e n hc) (fun b o hc e n => u.free b o e n hc) (fun b o hc e => u.there b o e hc) u.tups u.frzs u.tbls (fun m' hm => by
    obtain ⟨o', es', ep', ho', r'⟩ := hm
    rw [ho] at ho'; cases ho'
    exact ⟨_, es', ep', hL, r'⟩) hok hg
theorem Inv.turned {t' : Nat} {it : Addr} (I : Inv X pins σ H s) (k : ∀ b o, b ≠ it → s.heap.get? b = some o → h'.get? b = some o) (hn : H it = none) (hL : it ≠ X.env.locals)
    (h1 : it ∈ X.ex ∨ X.s_0.heap.objs.size ≤ it) (h2 : ∀ x c, X.env.cells.lookup x = some c → c ≠ it) (h3 : ∀ p ∈ X.pn ++ pins, p.1 ≠ it) : Inv X pins σ H { s with heap := h', toks := t' } := by
  have nit : ∀ b u, H b = some u → b ≠ it := fun b u e z => by rw [z, hn] at e; cases e
  refine I.step (g' := s.gens) (d' := s.drawn) (ch := [it]) (fun b hb => ?_) (fun b o _ _ hc e _ => k b o (fun z => hc (by simp [z])) e) (fun b o _ _ hc e _ => ⟨o.slots, k b o (fun z => hc (by simp [z])) e⟩) (fun _ _ _ _ n => n)
    (fun b o hc e => ⟨o, k b o (fun z => hc (by simp [z])) e⟩) (fun _ _ e => e) (fun _ _ _ e => e) (fun b ps e => ⟨#[], by rw [e]; simp⟩) (fun m hm => ?_) (fun b u e => ?_) I.bare
  · have e : b = it := by simpa using hb
    subst e
    exact ⟨h1, hL, h2, h3⟩
  · obtain ⟨o, es, ep, ho, r⟩ := hm
    exact ⟨o, es, ep, k _ o (Ne.symm hL) ho, r⟩
  · refine (I.hok b u e).stay (fun c v hc q => k c v ?_ q) (fun _ q => q) fun _ _ q => q
    rcases hc with z | z
    · rw [z]; exact nit b u e
    · exact nit c _ z
theorem Inv.tok (I : Inv X pins σ H s) (t : Nat) : Inv X pins σ H { s with toks := t } := I.un (h' := s.heap) (t' := t) Un.refl I.hok
theorem Inv.kept {t' : Nat} (I : Inv X pins σ H s) (k : ∀ b u, s.heap.get? b = some u → h'.get? b = some u) : Inv X pins σ H { s with heap := h', toks := t' } := I.un (Un.kept k) (I.hok.kept k)
theorem Inv.laid {a : Addr} {o : HO} {t' : Nat} (I : Inv X pins σ H s) (k : ∀ b u, s.heap.get? b = some u → h'.get? b = some u) (hp : s.heap.objs.size ≤ a) (new : ObjOk X.prog X.w (upd H a o) h' a o) :
    Inv X pins σ (upd H a o) { s with heap := h', toks := t' } := I.un (Un.laid k hp (I.hok.fresh hp)) (I.hok.laid k hp new)
theorem Inv.write {x e : Addr} {o : HO} {t' : Nat} (I : Inv X pins σ H s) (mu : Mut (H x)) (he : e = x ∨ H e = some (.own x)) (k : ∀ b u, b ≠ e → s.heap.get? b = some u → h'.get? b = some u) (heo : ∃ u, h'.get? e = some u)
    (new : ObjOk X.prog X.w (upd H x o) h' x o) : Inv X pins σ (upd H x o) { s with heap := h', toks := t' } := I.un (Un.write mu he k heo) (I.hok.write mu he k heo new)
theorem Inv.weak {σ' : List (Option V)} (I : Inv X pins σ H s) (hl : σ'.length = σ.length) (w : ∀ (i : Nat) v, σ'[i]? = some (some v) → σ[i]? = some (some v)) : Inv X pins σ' H s :=
  ⟨I.ok, I.os, I.bare, I.base, let ⟨m, hn, hl'⟩ := I.loc; ⟨m, hn, fun i x v e1 e2 e3 => hl' i x v e1 (w i v e2) e3⟩, I.cell, I.free, I.freeC, I.pin, I.hok, hl.trans I.len⟩
theorem Inv.pins_of {pins' : List (Addr × Obj)} (I : Inv X pins σ H s) (h : ∀ p ∈ pins', s.heap.get? p.1 = some p.2 ∧ H p.1 = none ∧ p.1 ≠ X.env.locals ∧ p.1 ∉ X.fs ∧ ∀ v, p.2.data ≠ .cell v) : Inv X pins' σ H s :=
  ⟨I.ok, I.os, I.bare, I.base, I.loc, I.cell, I.free, I.freeC, fun p hp => (List.mem_append.mp hp).elim (fun z => I.pin p (List.mem_append_left _ z)) (h p), I.hok, I.len⟩
theorem nodup_ix {N : List Str} (hN : N.Nodup) {i j : Nat} {x : Str} (a : N[i]? = some x) (b : N[j]? = some x) : i = j := by
  obtain ⟨h1, e1⟩ := List.getElem?_eq_some_iff.mp a
  obtain ⟨h2, e2⟩ := List.getElem?_eq_some_iff.mp b
  exact (List.getElem_inj hN).mp (e1.trans e2.symm)
theorem store_ok2 {M : Model} {A : Around} {E : Value → Shared → Prop} {i : Nat} {x : Str} {v : V} {u : Value} {Q : Unit → Shared → Prop} (I : Inv X pins σ H s) (hN : X.N.Nodup) (hi : X.N[i]? = some x) (hx : Loc X.env.scope x) (r : RelV v u)
    (h : ∀ s', Inv X pins (σ.set i (some v)) H s' → (∃ a, Heap.SameBut a s.heap s'.heap ∧ (a = X.env.locals ∨ X.env.cells.lookup x = some a)) → Q () s') (hf : X.fn x = true ∨ X.env.scope.names.lookup x = some .local := by first | exact .inl rfl | exact .inr rfl | assumption) : wpAny M A (storeName X.env x u) Q E s := by
  obtain ⟨m, hn, hl⟩ := id I.loc
  have hcls : (X.env.scope.kind == .class || (X.env.scope.kind == .module && X.env.locals != X.env.globals)) = false := by rw [I.ok.kind]; rfl
  have hiσ : i < σ.length := by rw [I.len]; exact (List.getElem?_eq_some_iff.mp hi).1
  have cne := I.cne
  have tracked : ∀ {a : Addr} {h' : Heap}, (∃ o, s.heap.get? a = some o ∧ H a = none) → Heap.SameBut a s.heap h' → HOk X.prog X.w H h' := fun {a h'} ha hs b ob e => by
    obtain ⟨_, _, hfree⟩ := ha
    refine (I.hok b ob e).stay (fun c w' hc q => (hs.2 c ?_).trans q) (fun _ q => q) fun _ _ q => q
    rintro rfl
    rcases hc with rfl | hc
    · rw [hfree] at e; cases e
    · rw [hfree] at hc; cases hc
  rcases hx with hk | hk
  · refine wpAny_storeName_local hk hn (fun h' hn' hs => ?_) hcls
    obtain ⟨oL, _, _, hoL, _⟩ := id hn
    refine h _ ⟨I.ok, I.os, I.bare, ⟨fun b o e n hb hx => ?_, fun b o e n hb hx => ?_, I.base.free, fun b o e hx => ?_, I.base.tups, I.base.frzs, I.base.tbls⟩, ⟨_, hn', fun j y v' e1 e2 e3 => ?_⟩, fun y c e => ?_, I.free, I.freeC, fun p hp => ?_, tracked ⟨oL, hoL, I.free⟩ hs, by simpa using I.len⟩ ⟨_, hs, .inl rfl⟩
    · exact (hs.2 b (Nat.ne_of_lt (Nat.lt_of_lt_of_le (Heap.lt_size e) I.ok.above))).trans (I.base.keep b o e n hb hx)
    · obtain ⟨sl, e1⟩ := I.base.slot b o e n hb hx
      exact ⟨sl, (hs.2 b (Nat.ne_of_lt (Nat.lt_of_lt_of_le (Heap.lt_size e) I.ok.above))).trans e1⟩
    · obtain ⟨o', e1⟩ := I.base.there b o e hx
      exact ⟨o', (hs.2 b (Nat.ne_of_lt (Nat.lt_of_lt_of_le (Heap.lt_size e) I.ok.above))).trans e1⟩
    · by_cases hj : j = i
      · subst hj
        rw [hi] at e1; cases e1
        rw [List.getElem?_set_self hiσ] at e2
        cases e2
        exact ⟨u, r, .inl ⟨hk, by simp⟩⟩
      · rw [List.getElem?_set_ne (Ne.symm hj)] at e2
        obtain ⟨u', r', q⟩ := hl j y v' e1 e2 e3
        refine ⟨u', r', ?_⟩
        rcases q with ⟨k, e⟩ | ⟨k, c, e, z⟩
        · refine .inl ⟨k, ?_⟩
          have : y ≠ x := fun e => hj (nodup_ix hN e1 (e ▸ hi))
          simp [this, e]
        · exact .inr ⟨k, c, e, z.sameBut hs (cne y c e)⟩
    · obtain ⟨w', z⟩ := I.cell y c e
      exact ⟨w', z.sameBut hs (cne y c e)⟩
    · obtain ⟨e, n, ne, nf, d⟩ := I.pin p hp
      exact ⟨(hs.2 p.1 ne).trans e, n, ne, nf, d⟩
  · have hfn : X.fn x = true := by
      rcases hf with z | z
      · exact z
      · rw [z] at hk; cases hk
    obtain ⟨c, hc⟩ := I.ok.has x (.inl hk)
    obtain ⟨w', z⟩ := I.cell x c hc
    refine wpAny_storeName_cell I.ok.kind hk hc z (fun h' hc' hs => ?_)
    obtain ⟨oc, hoc, hocd⟩ := id z
    refine h { s with heap := h' } ⟨I.ok, I.os, I.bare, ⟨fun b o e n hb hx => ?_, fun b o e n hb hx => ?_, I.base.free, fun b o e hx => ?_, I.base.tups, I.base.frzs, I.base.tbls⟩, ⟨m, hn.sameBut hs (Ne.symm (cne x c hc)), fun j y v' e1 e2 e3 => ?_⟩, fun y c' e => ?_, I.free, I.freeC, fun p hp => ?_, tracked ⟨oc, hoc, I.freeC x c hc⟩ hs, by simpa using I.len⟩ ⟨c, hs, .inr hc⟩
    · exact (hs.2 b (Nat.ne_of_lt (Nat.lt_of_lt_of_le (Heap.lt_size e) (I.ok.cab x c hfn hc)))).trans (I.base.keep b o e n hb hx)
    · obtain ⟨sl, e1⟩ := I.base.slot b o e n hb hx
      exact ⟨sl, (hs.2 b (Nat.ne_of_lt (Nat.lt_of_lt_of_le (Heap.lt_size e) (I.ok.cab x c hfn hc)))).trans e1⟩
    · obtain ⟨o', e1⟩ := I.base.there b o e hx
      exact ⟨o', (hs.2 b (Nat.ne_of_lt (Nat.lt_of_lt_of_le (Heap.lt_size e) (I.ok.cab x c hfn hc)))).trans e1⟩
    · by_cases hj : j = i
      · subst hj
        rw [hi] at e1; cases e1
        rw [List.getElem?_set_self hiσ] at e2
        cases e2
        exact ⟨u, r, .inr ⟨.inl hk, c, hc, hc'⟩⟩
      · rw [List.getElem?_set_ne (Ne.symm hj)] at e2
        obtain ⟨u', r', q⟩ := hl j y v' e1 e2 e3
        refine ⟨u', r', ?_⟩
        rcases q with q | ⟨k, c', e, z'⟩
        · exact .inl q
        · refine .inr ⟨k, c', e, z'.sameBut hs ?_⟩
          rintro rfl
          exact hj (nodup_ix hN e1 (I.ok.inj _ _ _ e hc ▸ hi))
    · by_cases hcc : c' = c
      · subst hcc; exact ⟨_, hc'⟩
      · obtain ⟨w2, z2⟩ := I.cell y c' e
        exact ⟨w2, z2.sameBut hs hcc⟩
    · obtain ⟨e, n, ne, nf, d⟩ := I.pin p hp
      refine ⟨(hs.2 p.1 ?_).trans e, n, ne, nf, d⟩
      intro q
      rw [q, hoc] at e
      have q' : oc = p.2 := Option.some.inj e
      exact d w' (by rw [← q']; exact hocd)
theorem store_ok {M : Model} {A : Around} {E : Value → Shared → Prop} {i : Nat} {x : Str} {v : V} {u : Value} {Q : Unit → Shared → Prop} (I : Inv X pins σ H s) (hN : X.N.Nodup) (hi : X.N[i]? = some x) (hx : Loc X.env.scope x) (r : RelV v u)
    (h : ∀ s', Inv X pins (σ.set i (some v)) H s' → Q () s') (hf : X.fn x = true ∨ X.env.scope.names.lookup x = some .local := by first | exact .inl rfl | exact .inr rfl | assumption) : wpAny M A (storeName X.env x u) Q E s :=
  store_ok2 I hN hi hx r (fun s' I' _ => h s' I') hf
theorem Inv.call' {s' : Shared} {ch : List Addr} (I : Inv X pins σ H s) (ho : s'.os = s.os) (u : Un (frs X.stack) ch H H' s.heap s'.heap) (hok : HOk X.prog X.w H' s'.heap) (hg : AllBare s'.gens)
    (hch : ∀ b ∈ ch, (b ∈ X.ex ∨ X.s_0.heap.objs.size ≤ b) ∧ b ≠ X.env.locals ∧ (∀ x c, X.env.cells.lookup x = some c → c ≠ b) ∧ ∀ p ∈ X.pn ++ pins, p.1 ≠ b) : Inv X pins σ H' s' := by
  obtain ⟨h', g', d', t', o'⟩ := s'
  have e : o' = s.os := ho
  subst e
  exact I.call (g' := g') (t' := t') (d' := d') u hok hg hch
end
abbrev XK := Value → Option Addr → Hp → Prop
abbrev St := List (Option V)
abbrev VK := V → Hp → Prop
abbrev TE := St → Hp → VK → Prop
abbrev TT := St → Hp → (Bool → Hp → Prop) → Prop
abbrev TA := St → Hp → (List V → Hp → Prop) → Prop
structure Ends where
  nx : St → Hp → Prop
  rt : VK
  bk : St → Hp → Prop := fun _ _ => False
  ct : St → Hp → Prop := fun _ _ => False
abbrev TS := Ends → St → Hp → Prop
def EP (X : Cx) (pins : List (Addr × Obj)) (σ : St) (Q : VK) (u : Value) (s' : Shared) : Prop := ∃ v H', Inv X pins σ H' s' ∧ RelV v u ∧ Q v H'
def TP (X : Cx) (pins : List (Addr × Obj)) (σ : St) (Q : Bool → Hp → Prop) (b : Bool) (s' : Shared) : Prop := ∃ H', Inv X pins σ H' s' ∧ Q b H'
def AP (X : Cx) (pins : List (Addr × Obj)) (σ : St) (Q : List V → Hp → Prop) (us : List Value) (s' : Shared) : Prop := ∃ vs H', Inv X pins σ H' s' ∧ Vals vs us ∧ Q vs H'
def SP (X : Cx) (pins : List (Addr × Obj)) (D : Ends) (f : Flow) (s' : Shared) : Prop :=
  match f with
  | .next => ∃ σ' H', Inv X pins σ' H' s' ∧ D.nx σ' H'
  | .brk => ∃ σ' H', Inv X pins σ' H' s' ∧ D.bk σ' H'
  | .cont => ∃ σ' H', Inv X pins σ' H' s' ∧ D.ct σ' H'
  | .ret u => ∃ v σ' H', Inv X pins σ' H' s' ∧ RelV v u ∧ D.rt v H'
def PE (X : Cx) (e : Expr) (t : TE) : Prop :=
  ∀ (pins : List (Addr × Obj)) (s : Shared) (σ : St) (H : Hp) (Q : VK), Inv X pins σ H s → t σ H Q → wpAny (model X.prog X.w) X.A (eval e X.env) (EP X pins σ Q) X.xe s
def PT (X : Cx) (e : Expr) (t : TT) : Prop :=
  ∀ (pins : List (Addr × Obj)) (s : Shared) (σ : St) (H : Hp) (Q : Bool → Hp → Prop), Inv X pins σ H s → t σ H Q → wpAny (model X.prog X.w) X.A (isTrue e X.env (eval e X.env)) (TP X pins σ Q) X.xe s
def PW (X : Cx) (e : Expr) (t : TT) : Prop :=
  ∀ (whole : Sem Value) (pins : List (Addr × Obj)) (s : Shared) (σ : St) (H : Hp) (Q : Bool → Hp → Prop), Inv X pins σ H s → t σ H Q → wpAny (model X.prog X.w) X.A (isTrue e X.env whole) (TP X pins σ Q) X.xe s
theorem PW.pt {X : Cx} {e : Expr} {t : TT} (h : PW X e t) : PT X e t := h _
def PA (X : Cx) (es : List Expr) (t : TA) : Prop :=
  ∀ (pos : Pos) (pins : List (Addr × Obj)) (s : Shared) (σ : St) (H : Hp) (Q : List V → Hp → Prop), Inv X pins σ H s → t σ H Q → wpAny (model X.prog X.w) X.A (spliced (backTo pos (starEach es X.env))) (AP X pins σ Q) X.xe s
def PS (X : Cx) (st : Stmt) (t : TS) : Prop :=
  ∀ (pins : List (Addr × Obj)) (s : Shared) (σ : St) (H : Hp) (D : Ends), Inv X pins σ H s → t D σ H → wpAny (model X.prog X.w) X.A (exec st X.env) (SP X pins D) X.xe s
def PSs (X : Cx) (st : List Stmt) (t : TS) : Prop :=
  ∀ (pins : List (Addr × Obj)) (s : Shared) (σ : St) (H : Hp) (D : Ends), Inv X pins σ H s → t D σ H → wpAny (model X.prog X.w) X.A (execs st X.env) (SP X pins D) X.xe s
theorem thn {α : Type} {t : Sem α} {Q Q' : α → Shared → Prop} {M : Model} {A : Around} {E : Value → Shared → Prop} {s : Shared} (h : wpAny M A t Q E s) (hQ : ∀ a s, Q a s → Q' a s) : wpAny M A t Q' E s := wpAny_mono h hQ fun _ _ x => x
section
variable {X : Cx}
theorem bin {a b : Expr} {ta tb : TE} (ha : PE X a ta) (hb : PE X b tb) {pins : List (Addr × Obj)} {s : Shared} {σ : St} {H : Hp} {R : V → V → Hp → Prop} (I : Inv X pins σ H s) (h : ta σ H fun x H1 => tb σ H1 fun y H2 => R x y H2)
    {α : Type} {Q : α → Shared → Prop} {f : Value → Value → Sem α}
    (hf : ∀ v u s2 x y H2, Inv X pins σ H2 s2 → RelV x v → RelV y u → R x y H2 → wpAny (model X.prog X.w) X.A (f v u) Q X.xe s2) :
    wpAny (model X.prog X.w) X.A (eval a X.env) (fun v s₁ => wpAny (model X.prog X.w) X.A (eval b X.env) (fun u s₂ => wpAny (model X.prog X.w) X.A (f v u) Q X.xe s₂) X.xe s₁) X.xe s := by
  refine thn (ha pins s σ H _ I h) fun v s1 ⟨x, H1, I1, r1, q1⟩ => ?_
  refine thn (hb pins s1 σ H1 _ I1 q1) fun u s2 ⟨y, H2, I2, r2, q2⟩ => ?_
  exact hf v u s2 x y H2 I2 r1 r2 q2
def tVar (i : Nat) : TE := fun σ H Q => ∃ v, σ[i]? = some (some v) ∧ Q v H
def tC (v : V) : TE := fun _ H Q => Q v H
theorem pe_var {i : Nat} {x : Str} {pos : Pos} (hN : X.N[i]? = some x) (hv : Vis X.env.scope x) (hd : (x == ("__debug__" : Str)) = false := by decide) (hcd : (x == ("__classdict__" : Str)) = false := by decide) : PE X (.Name x pos) (tVar i) := by
  intro pins s σ H Q I h
  obtain ⟨v, e, h⟩ := h
  obtain ⟨m, hn, hl⟩ := I.loc
  obtain ⟨u, r, l⟩ := hl i x v hN e hv
  have fin : EP X pins σ Q u s := ⟨v, H, I, r, h⟩
  rcases l with ⟨hk, hm⟩ | ⟨hk, c, hc, hcell⟩
  · exact wpAny_Name (wpAny_loadName_local I.ok.kind hk hn hm fin) hd
  · rcases hk with hk | hk
    · exact wpAny_Name (wpAny_loadName_cell I.ok.kind hk hc hcell fin) hd
    · exact wpAny_Name (wpAny_loadName_free I.ok.kind hk hc hcell fin hcd) hd
theorem pe_int {i j pos} : PE X (.Constant (.int i) j pos) (tC (.int i)) := fun _ _ _ H _ I h => wpAny_Constant_int ⟨.int i, H, I.tok _, ⟨_, rfl⟩, h⟩
theorem pe_bl {b j pos} : PE X (.Constant (.bool b) j pos) (tC (.bl b)) := fun _ _ _ H _ I h => Constant_bool ⟨.bl b, H, I, rfl, h⟩
theorem pe_non {j pos} : PE X (.Constant .none j pos) (tC .non) := fun _ _ _ H _ I h => Constant_none ⟨.non, H, I, rfl, h⟩
def Gl (X : Cx) (x : Str) : Prop := X.env.kindOf x = some .globalImplicit
theorem ld_glob {E : Value → Shared → Prop} {pins : List (Addr × Obj)} {s : Shared} {σ : St} {H : Hp} {x : Str} {u : Value} {pos : Pos} {Q : Value → Shared → Prop} (I : Inv X pins σ H s) (hg : Gl X x) (hm : X.mg x = some u) (h : Q u s)
    (hd : (x == ("__debug__" : Str)) = false := by decide) : wpAny (model X.prog X.w) X.A (eval (.Name x pos) X.env) Q E s :=
  Calls.Name_function_global I.ok.kind hg (Calls.loadGlobal_global (by rw [I.ok.glob]; exact I.mod.glob.keeps I.bk) hm h) hd
theorem ld_blt {E : Value → Shared → Prop} {pins : List (Addr × Obj)} {s : Shared} {σ : St} {H : Hp} {x : Str} {u : Value} {pos : Pos} {Q : Value → Shared → Prop} (I : Inv X pins σ H s) (hg : Gl X x) (hm : X.mg x = none) (hv : bootBuiltins x = some u) (h : Q u s)
    (hn : x ≠ "__name__" := by decide) (hd : (x == ("__debug__" : Str)) = false := by decide) : wpAny (model X.prog X.w) X.A (eval (.Name x pos) X.env) Q E s := by
  obtain ⟨mb, h1, h2⟩ := I.mod.blt
  exact Calls.Name_function_global I.ok.kind hg (Calls.loadGlobal_builtin (by rw [I.ok.glob]; exact I.mod.glob.keeps I.bk) hm (by rw [I.ok.blt]; exact h1.keeps I.bk) ((h2 x hn).trans hv) h) hd
theorem pe_glob {x : Str} {v : V} {u : Value} {pos : Pos} (hg : Gl X x) (hm : X.mg x = some u) (r : RelV v u) (hd : (x == ("__debug__" : Str)) = false := by decide) : PE X (.Name x pos) (tC v) :=
  fun _ _ _ H _ I h => ld_glob I hg hm ⟨v, H, I, r, h⟩ hd
variable {a b : Expr} {ta tb : TE} {pos : Pos}
variable {tA tB' : TT} {rest : List Expr}
def tAnd (t u : TT) : TT := fun σ H Q => t σ H fun c H1 => if c = true then u σ H1 Q else Q false H1
def tOr (t u : TT) : TT := fun σ H Q => t σ H fun c H1 => if c = true then Q true H1 else u σ H1 Q
def tNot (t : TT) : TT := fun σ H Q => t σ H fun c H1 => Q (!c) H1
theorem pw_and1 (ha : PT X a tA) : PW X (.BoolOp .And [a] pos) tA := by
  intro wh pins s σ H Q I h
  refine isTrue_and (thn (ha pins s σ H Q I h) fun c s1 e => ?_)
  cases c with
  | true => exact isTrue_and_nil e
  | false => exact e
theorem pw_or1 (ha : PT X a tA) : PW X (.BoolOp .Or [a] pos) tA := by
  intro wh pins s σ H Q I h
  refine isTrue_or (thn (ha pins s σ H Q I h) fun c s1 e => ?_)
  cases c with
  | false => exact isTrue_or_nil e
  | true => exact e
theorem pw_and (ha : PT X a tA) (hb : PW X (.BoolOp .And (b :: rest) pos) tB') : PW X (.BoolOp .And (a :: b :: rest) pos) (tAnd tA tB') := by
  intro wh pins s σ H Q I h
  refine isTrue_and (thn (ha pins s σ H _ I h) fun c s1 ⟨H1, I1, q1⟩ => ?_)
  cases c with
  | true => exact hb wh pins s1 σ H1 Q I1 q1
  | false => exact ⟨H1, I1, q1⟩
theorem pw_or (ha : PT X a tA) (hb : PW X (.BoolOp .Or (b :: rest) pos) tB') : PW X (.BoolOp .Or (a :: b :: rest) pos) (tOr tA tB') := by
  intro wh pins s σ H Q I h
  refine isTrue_or (thn (ha pins s σ H _ I h) fun c s1 ⟨H1, I1, q1⟩ => ?_)
  cases c with
  | true => exact ⟨H1, I1, q1⟩
  | false => exact hb wh pins s1 σ H1 Q I1 q1
theorem pt_not (ha : PT X a tA) : PT X (.UnaryOp .Not a pos) (tNot tA) := by
  intro pins s σ H Q I h
  exact isTrue_not (ha pins s σ H (fun c H1 => Q (!c) H1) I h)
def tAndV (ta tb : TE) : TE := fun σ H Q => ta σ H fun x H1 => ∃ c, x = .bl c ∧ if c = true then tb σ H1 Q else Q (.bl false) H1
theorem pe_one {op} {t : TE} (h : PE X a t) : PE X (.BoolOp op [a] pos) t := fun pins s σ H Q I hw => BoolOp_one (h pins s σ H Q I hw)
theorem pe_and (ha : PE X a ta) (hb : PE X (.BoolOp .And (b :: rest) pos) tb) : PE X (.BoolOp .And (a :: b :: rest) pos) (tAndV ta tb) := by
  intro pins s σ H Q I h
  refine BoolOp_and (thn (ha pins s σ H _ I h) fun v s1 ⟨x, H1, I1, r1, q1⟩ => ?_)
  obtain ⟨c, rfl, q1⟩ := q1
  cases r1
  refine wpAny_truthy_bool ?_
  cases c with
  | true => exact hb pins s1 σ H1 Q I1 q1
  | false => exact ⟨.bl false, H1, I1, rfl, q1⟩
def tIf (t : TT) (ta tb : TE) : TE := fun σ H Q => t σ H fun c H1 => if c = true then ta σ H1 Q else tb σ H1 Q
theorem pe_ifExp {c : Expr} (hc : PT X c tA) (ha : PE X a ta) (hb : PE X b tb) : PE X (.IfExp c a b pos) (tIf tA ta tb) := by
  intro pins s σ H Q I h
  refine wpAny_IfExp (thn (hc pins s σ H _ I h) fun d s1 ⟨H1, I1, q1⟩ => ?_)
  cases d with
  | true => exact ha pins s1 σ H1 Q I1 q1
  | false => exact hb pins s1 σ H1 Q I1 q1
end
def SqL (K : PySem.W.Frag) (H : Hp) (a : Addr) (xs : List V) : Prop :=
  Rd H a (.lst xs) ∨
    ∃ (o : Obj) (its : Array Value) (n : Nat), K.lookup a = some o ∧ o.cls = .type "list" ∧ o.dict = none ∧ o.data = .seq its n ∧ its.size ≤ sizeLine ∧ Vals xs its.toList
def SqT (K : PySem.W.Frag) (H : Hp) (a : Addr) (xs : List V) : Prop :=
  Rd H a (.tup xs) ∨
    ∃ (o : Obj) (its : Array Value) (n : Nat), K.lookup a = some o ∧ o.cls = .type "tuple" ∧ o.data = .seq its n ∧ its.size ≤ sizeLine ∧ Vals xs its.toList
def absV : Value → Option V
  | .none => some .non
  | .bool b => some (.bl b)
  | .int i _ => some (.int i)
  | .str x _ => some (.str x)
  | .bytes b _ => some (.byt b)
  | .float b _ => some (.flt b)
  | .ref a => some (.ref a)
  | .type n => some (.ty n)
  | _ => none
theorem RelV.abs {x : V} {u : Value} (r : RelV x u) : absV u = some x := by
  cases x with
  | non => cases r; rfl
  | bl _ => cases r; rfl
  | int _ => obtain ⟨t, rfl⟩ := r; rfl
  | str _ => obtain ⟨t, rfl⟩ := r; rfl
  | byt _ => obtain ⟨t, rfl⟩ := r; rfl
  | flt _ => obtain ⟨t, rfl⟩ := r; rfl
  | ref _ => cases r; rfl
  | ty _ => cases r; rfl
theorem RelV.inj {x y : V} {u : Value} (r : RelV x u) (q : RelV y u) : x = y := Option.some.inj (r.abs.symm.trans q.abs)
theorem Vals.inj : ∀ {xs ys : List V} {us : List Value}, Vals xs us → Vals ys us → xs = ys
  | _, _, _, .nil, .nil => rfl
  | _, _, _, .cons r t, .cons r' t' => by rw [r.inj r', Vals.inj t t']
section
variable {X : Cx} {pins : List (Addr × Obj)} {σ : St} {H : Hp} {s : Shared} {a : Addr} {xs ys : List V}
theorem SqL.of {K : PySem.W.Frag} (h : H a = some (.lst xs)) : SqL K H a xs := .inl (.inl h)
theorem SqT.of {K : PySem.W.Frag} (h : H a = some (.tup xs)) : SqT K H a xs := .inl (.inl h)
theorem Inv.list (I : Inv X pins σ H s) (h : SqL X.K H a xs) : ∃ its : List Value, Vals xs its ∧ PlainL s.heap a its.toArray ∧ xs.length ≤ sizeLine := by
  rcases h with h | ⟨o, its, n, hk, hc, hd, hs, hz, r⟩
  · obtain ⟨z, its, n, r, e⟩ := h.ok I.hok
    exact ⟨its, r, ⟨_, n, e, rfl, rfl, rfl⟩, z⟩
  · refine ⟨its.toList, r, ⟨o, n, I.kIn a o hk, hc, hd, by simpa using hs⟩, ?_⟩
    have e := r.length
    simp only [Array.length_toList] at e
    omega
theorem Inv.tuple (I : Inv X pins σ H s) (h : SqT X.K H a xs) : ∃ its : List Value, Vals xs its ∧ IsTup s.heap a its.toArray ∧ xs.length ≤ sizeLine := by
  rcases h with h | ⟨o, its, n, hk, hc, hs, hz, r⟩
  · obtain ⟨z, its, r, p⟩ := h.ok I.hok
    exact ⟨its, r, p, z⟩
  · refine ⟨its.toList, r, ⟨o, I.kIn a o hk, hc, n, by simpa using hs⟩, ?_⟩
    have e := r.length
    simp only [Array.length_toList] at e
    omega
theorem Inv.list_inj (I : Inv X pins σ H s) (h : SqL X.K H a xs) (h' : SqL X.K H a ys) : xs = ys := by
  obtain ⟨its, r, ⟨o, n, e, _, _, d⟩, _⟩ := I.list h
  obtain ⟨its', r', ⟨o', n', e', _, _, d'⟩, _⟩ := I.list h'
  rw [e] at e'; cases e'
  rw [d] at d'
  injection d' with d1 _
  have : its = its' := by simpa using congrArg Array.toList d1
  subst this
  exact r.inj r'
theorem Inv.tuple_inj (I : Inv X pins σ H s) (h : SqT X.K H a xs) (h' : SqT X.K H a ys) : xs = ys := by
  obtain ⟨its, r, ⟨o, e, _, n, d⟩, _⟩ := I.tuple h
  obtain ⟨its', r', ⟨o', e', _, n', d'⟩, _⟩ := I.tuple h'
  rw [e] at e'; cases e'
  rw [d] at d'
  injection d' with d1 _
  have : its = its' := by simpa using congrArg Array.toList d1
  subst this
  exact r.inj r'
end
abbrev Cx.wish (X : Cx) (E : Value → Shared → Prop) : Cx := { X with xe := E }
abbrev Cx.nox (X : Cx) : Cx := X.wish fun _ _ => False
theorem Cx.Ok.wish {X : Cx} (ok : X.Ok) (E : Value → Shared → Prop) : (X.wish E).Ok :=
  ⟨ok.mod, ok.kind, ok.glob, ok.blt, ok.above, ok.inj, ok.has, ok.cab, ok.hd, ok.frames, ok.stk, ok.exf, ok.bs, ok.bsz, ok.noex, ok.exfs, ok.funs, ok.frf⟩
theorem Cx.Ok.unwish {X : Cx} {E : Value → Shared → Prop} (ok : (X.wish E).Ok) : X.Ok :=
  ⟨ok.mod, ok.kind, ok.glob, ok.blt, ok.above, ok.inj, ok.has, ok.cab, ok.hd, ok.frames, ok.stk, ok.exf, ok.bs, ok.bsz, ok.noex, ok.exfs, ok.funs, ok.frf⟩
section
variable {X : Cx} {pins : List (Addr × Obj)} {σ : St} {H : Hp} {s : Shared} {E : Value → Shared → Prop}
theorem Inv.wish (I : Inv X pins σ H s) (E : Value → Shared → Prop) : Inv (X.wish E) pins σ H s := ⟨I.ok.wish E, I.os, I.bare, I.base, I.loc, I.cell, I.free, I.freeC, I.pin, I.hok, I.len⟩
theorem Inv.unwish (I : Inv (X.wish E) pins σ H s) : Inv X pins σ H s := ⟨I.ok.unwish, I.os, I.bare, I.base, I.loc, I.cell, I.free, I.freeC, I.pin, I.hok, I.len⟩
theorem SP.unwish {D : Ends} {f : Flow} {s' : Shared} (h : SP (X.wish E) pins D f s') : SP X pins D f s' := by
  cases f with
  | next => obtain ⟨σ', H', I, q⟩ := h; exact ⟨σ', H', I.unwish, q⟩
  | brk => obtain ⟨σ', H', I, q⟩ := h; exact ⟨σ', H', I.unwish, q⟩
  | cont => obtain ⟨σ', H', I, q⟩ := h; exact ⟨σ', H', I.unwish, q⟩
  | ret u => obtain ⟨v, σ', H', I, r, q⟩ := h; exact ⟨v, σ', H', I.unwish, r, q⟩
theorem PSs.nox {st : List Stmt} {t : TS} (h : PSs X.nox st t) : PSs X st t := fun pins s σ H D I hw =>
  wpAny_mono (h pins s σ H D (I.wish _) hw) (fun _ _ q => q.unwish) fun _ _ z => False.elim z
end
section
variable {X : Cx} {st : Stmt} {rest : List Stmt} {t u : TS} {e : Expr} {te : TE} {pos : Pos}
def tNext : TS := fun D σ H => D.nx σ H
def tSeq (t u : TS) : TS := fun D σ H => t { D with nx := u D } σ H
theorem pss_nil : PSs X [] tNext := fun _ _ σ H _ I h => wpAny_execs_nil ⟨σ, H, I, h⟩
theorem pss_cons (h1 : PS X st t) (h2 : PSs X rest u) : PSs X (st :: rest) (tSeq t u) := by
  intro pins s σ H D I h
  refine wpAny_execs_cons (thn (h1 pins s σ H { D with nx := u D } I h) fun f s1 q => ?_)
  cases f with
  | next =>
    obtain ⟨σ', H', I', q⟩ := q
    exact h2 pins s1 σ' H' D I' q
  | ret v => exact q
  | brk => exact q
  | cont => exact q
theorem pss_one (h1 : PS X st t) : PSs X [st] t := by
  intro pins s σ H D I h
  refine wpAny_execs_cons (thn (h1 pins s σ H D I h) fun f s1 q => ?_)
  cases f with
  | next => exact wpAny_execs_nil q
  | ret v => exact q
  | brk => exact q
  | cont => exact q
theorem Inv.quiet {pins : List (Addr × Obj)} {σ : St} {H : Hp} {s : Shared} (I : Inv X pins σ H s) : interactive X.env = false := by simp [interactive, I.ok.kind]
def tDrop (te : TE) : TS := fun D σ H => te σ H fun _ H1 => D.nx σ H1
theorem ps_expr (he : PE X e te) (hs : swapsWith e none pos.line X.env = pure false := by rfl) : PS X (.Expr e pos) (tDrop te) := by
  intro pins s σ H D I h
  exact wpAny_Expr_any (thn (he pins s σ H _ I h) fun v s1 ⟨x, H1, I1, r1, q1⟩ => ⟨σ, H1, I1, q1⟩) I.quiet hs
def tRet (te : TE) : TS := fun D σ H => te σ H D.rt
theorem ps_ret (he : PE X e te) : PS X (.Return (some e) pos) (tRet te) := by
  intro pins s σ H D I h
  exact wpAny_Return_some (thn (he pins s σ H _ I h) fun v s1 ⟨x, H1, I1, r1, q1⟩ => ⟨x, σ, H1, I1, r1, q1⟩)
def tRetN : TS := fun D _ H => D.rt .non H
theorem ps_retN : PS X (.Return none pos) tRetN := fun _ _ σ H _ I h => wpAny_Return_none ⟨.non, σ, H, I, rfl, h⟩
def tIfS (c : TT) (t u : TS) : TS := fun D σ H => c σ H fun b H1 => if b = true then t D σ H1 else u D σ H1
theorem ps_if {c : Expr} {a b : List Stmt} {tc : TT} (hc : PT X c tc) (ha : PSs X a t) (hb : PSs X b u) : PS X (.If c a b pos) (tIfS tc t u) := by
  intro pins s σ H D I h
  refine wpAny_If (thn (hc pins s σ H _ I h) fun d s1 ⟨H1, I1, q1⟩ => ?_)
  cases d with
  | true => exact ha pins s1 σ H1 D I1 q1
  | false => exact hb pins s1 σ H1 D I1 q1
end
abbrev TG := V → St → Hp → (St → Hp → Prop) → Prop
abbrev TGs := List V → St → Hp → (St → Hp → Prop) → Prop
def PG (X : Cx) (target : Expr) (t : TG) : Prop :=
  ∀ (pins : List (Addr × Obj)) (s : Shared) (σ : St) (H : Hp) (v : V) (u : Value) (Q : St → Hp → Prop), Inv X pins σ H s → RelV v u → t v σ H Q →
    wpAny (model X.prog X.w) X.A (assign target X.env u) (fun _ s' => ∃ σ' H', Inv X pins σ' H' s' ∧ Q σ' H') X.xe s
def PGs (X : Cx) (ts : List Expr) (t : TGs) : Prop :=
  ∀ (pins : List (Addr × Obj)) (s : Shared) (σ : St) (H : Hp) (vs : List V) (us : List Value) (Q : St → Hp → Prop), Inv X pins σ H s → Vals vs us → t vs σ H Q →
    wpAny (model X.prog X.w) X.A (assignInOrder ((assignEach ts X.env).map (·.2)) us) (fun _ s' => ∃ σ' H', Inv X pins σ' H' s' ∧ Q σ' H') X.xe s
abbrev TSet := V → V → V → Hp → (Hp → Prop) → Prop
def PSet (X : Cx) (t : TSet) : Prop :=
  ∀ (pins : List (Addr × Obj)) (s : Shared) (σ : St) (H : Hp) (o i v : V) (ov iv u : Value) (Q : Hp → Prop), Inv X pins σ H s → RelV o ov → RelV i iv → RelV v u → t o i v H Q →
    wpAny (model X.prog X.w) X.A (setItem ov iv u) (fun _ s' => ∃ H', Inv X pins σ H' s' ∧ Q H') X.xe s
section
variable {X : Cx} {pos : Pos}
def gName (i : Nat) : TG := fun v σ H Q => Q (σ.set i (some v)) H
theorem pg_name {i : Nat} {x : Str} (hN : X.N.Nodup) (hi : X.N[i]? = some x) (hx : Loc X.env.scope x) (hf : X.fn x = true ∨ X.env.scope.names.lookup x = some .local := by first | exact .inl rfl | exact .inr rfl | assumption) : PG X (.Name x pos) (gName i) := by
  intro pins s σ H v u Q I r h
  exact wpAny_assign_Name (store_ok I hN hi hx r (fun s' I' => ⟨_, H, I', h⟩) hf)
def gNil : TGs := fun vs σ H Q => vs = [] ∧ Q σ H
def gCons (t : TG) (u : TGs) : TGs := fun vs σ H Q => ∃ v r, vs = v :: r ∧ t v σ H fun σ' H' => u r σ' H' Q
theorem pgs_nil : PGs X [] gNil := by
  intro pins s σ H vs us Q I r h
  obtain ⟨e, h⟩ := h
  subst e
  cases r
  exact assignInOrder_nil ⟨σ, H, I, h⟩
theorem pgs_cons {e : Expr} {es : List Expr} {t : TG} {u : TGs} (h1 : PG X e t) (h2 : PGs X es u)
    (hs : (assignEach (e :: es) X.env).map (·.2) = assign e X.env :: (assignEach es X.env).map (·.2) := by rfl) : PGs X (e :: es) (gCons t u) := by
  intro pins s σ H vs us Q I r h
  obtain ⟨v, vr, e1, h⟩ := h
  subst e1
  cases r with
  | cons r rr =>
    rw [hs]
    refine assignInOrder_cons (thn (h1 pins s σ H _ _ _ I r h) fun _ s1 ⟨σ1, H1, I1, q1⟩ => ?_)
    exact h2 pins s1 σ1 H1 _ _ Q I1 rr q1
def gTup (K : PySem.W.Frag) (n : Nat) (t : TGs) : TG := fun v σ H Q => ∃ a xs, v = .ref a ∧ SqT K H a xs ∧ xs.length = n ∧ t xs σ H Q
theorem pg_tup {es : List Expr} {k : Nat} {t : TGs} {n : Nat} (hc : X.calm = true) (h : PGs X es t)
    (hn : (assignEach es X.env).length = n := by rfl) (hst : (assignEach es X.env).findIdx? (·.1) = none := by rfl) : PG X (.Tuple es k pos) (gTup X.K n t) := by
  intro pins s σ H v u Q I r hw
  obtain ⟨a, xs, e1, hq, hl, hw⟩ := hw
  subst e1
  cases r
  obtain ⟨its, rv, ht, hz⟩ := I.tuple hq
  refine assign_Tuple_tuple (I.ok.hd hc) ht (by simp [hn, ← hl, rv.length]) hst fun h' hx => ?_
  have I1 : Inv X pins σ H { s with heap := h' } := I.kept (t' := s.toks) fun b o e => hx b o (Nat.ne_of_lt (Heap.lt_size e)) e
  exact h pins _ σ H xs _ Q I1 (by simpa using rv) hw
def gSub (to ti : TE) (t : TSet) : TG := fun v σ H Q => to σ H fun o H1 => ti σ H1 fun i H2 => t o i v H2 fun H3 => Q σ H3
theorem pg_sub {o i : Expr} {to ti : TE} {t : TSet} (ho : PE X o to) (hi : PE X i ti) (hs : PSet X t)
    (ha : ∀ v, assign (.Subscript o i pos) X.env v = (do
      let ov ← holding [v] (eval o X.env)
      let iv ← holding [v, ov] (eval i X.env)
      standAt pos
      holding [v, ov, iv] (setItem ov iv v)
      release [v, ov, iv] []) := by intro _; rfl) : PG X (.Subscript o i pos) (gSub to ti t) := by
  intro pins s σ H v u Q I r h
  rw [ha]
  refine wpAny_bind (wpAny_holding (thn (ho pins s σ H _ I h) fun ov s1 ⟨x, H1, I1, r1, q1⟩ => ?_))
  refine wpAny_bind (wpAny_holding (thn (hi pins s1 σ H1 _ I1 q1) fun iv s2 ⟨y, H2, I2, r2, q2⟩ => ?_))
  refine wpAny_bind (wpAny_standAt (wpAny_bind (wpAny_holding (thn (hs pins s2 σ H2 x y v ov iv u _ I2 r1 r2 r q2) fun _ s3 ⟨H3, I3, q3⟩ => ?_))))
  exact wpAny_release ⟨σ, H3, I3, q3⟩
def tAsg (te : TE) (g : TG) : TS := fun D σ H => te σ H fun x H1 => g x σ H1 D.nx
theorem ps_asg {tg e : Expr} {te : TE} {g : TG} (he : PE X e te) (hg : PG X tg g) (hs : swapsWithSole [tg] e pos.line X.env = pure false := by rfl) (hw : swappedStores [tg] e X.env = pure none := by rfl)
    (h1 : (assignEach [tg] X.env).map (·.2) = [assign tg X.env] := by rfl) : PS X (.Assign [tg] e pos) (tAsg te g) := by
  intro pins s σ H D I h
  refine wpAny_Assign_stores (thn (he pins s σ H _ I h) fun v s1 ⟨x, H1, I1, r1, q1⟩ => ?_) hs hw
  rw [h1]
  exact thn (hg pins s1 σ H1 x v _ I1 r1 q1) fun _ s2 q => q
theorem ps_set {i : Nat} {x : Str} {e : Expr} {te : TE} {pos' : Pos} (hN : X.N.Nodup) (hi : X.N[i]? = some x) (hx : Loc X.env.scope x) (he : PE X e te) (hs : swapsWith e (some (.Name x pos')) pos.line X.env = pure false := by rfl) (hf : X.fn x = true ∨ X.env.scope.names.lookup x = some .local := by first | exact .inl rfl | exact .inr rfl | assumption) :
    PS X (.Assign [.Name x pos'] e pos) (tAsg te (gName i)) := by
  intro pins s σ H D I h
  refine wpAny_Assign_Name (thn (he pins s σ H _ I h) fun v s1 ⟨y, H1, I1, r1, q1⟩ => ?_) hs
  exact store_ok I1 hN hi hx r1 (fun s2 I2 => ⟨_, H1, I2, q1⟩) hf
end
section
variable {X : Cx} {pos : Pos}
def tWhile (c : TT) (tb : TS) : TS := fun D σ H => ∃ W : Nat → St → Hp → Prop, (∃ m, W m σ H) ∧ ∀ m σ H, W m σ H →
  c σ H fun b H1 => if b = true then ∃ N : St → Hp → Prop, (∀ σ' H', N σ' H' → ∃ m', m' < m ∧ W m' σ' H') ∧ tb { D with nx := N, ct := N, bk := D.nx } σ H1 else D.nx σ H1
theorem ps_while {c : Expr} {body : List Stmt} {tc : TT} {tb : TS} (hp : PassesOwn (model X.prog X.w) X.A X.env X.xe) (hc : PT X c tc) (hb : PSs X body tb) : PS X (.While c body [] pos) (tWhile tc tb) := by
  intro pins s σ H D I h
  obtain ⟨W, ⟨m0, w0⟩, turn⟩ := h
  refine wpAny_While (codeAny_whileLoop (fun n s' => ∃ σ' H', Inv X pins σ' H' s' ∧ W n σ' H') ?_ m0 ⟨σ, H, I, w0⟩)
  rintro n s1 ⟨σ1, H1, I1, w1⟩
  refine wpAny_passesOwn hp (thn (hc pins s1 σ1 H1 _ I1 (turn n σ1 H1 w1)) fun b s2 ⟨H2, I2, q2⟩ => ?_)
  cases b with
  | true =>
    obtain ⟨N, hN, q2⟩ := q2
    rw [if_pos rfl]
    refine wpAny_passesOwn hp (thn (hb pins s2 σ1 H2 _ I2 q2) fun f s3 q3 => ?_)
    cases f with
    | next =>
      obtain ⟨σ3, H3, I3, n3⟩ := q3
      obtain ⟨m', hm, w3⟩ := hN σ3 H3 n3
      exact ⟨m', hm, σ3, H3, I3, w3⟩
    | cont =>
      obtain ⟨σ3, H3, I3, n3⟩ := q3
      obtain ⟨m', hm, w3⟩ := hN σ3 H3 n3
      exact ⟨m', hm, σ3, H3, I3, w3⟩
    | brk => exact q3
    | ret v => exact q3
  | false =>
    rw [if_neg Bool.false_ne_true]
    exact wpAny_execs_nil ⟨σ1, H2, I2, q2⟩
end
structure It where
  go : Nat → Hp → Prop
  yld : Nat → Hp → V → Hp → Prop
  stop : Nat → Hp → Prop
def FpOk (X : Cx) (pins : List (Addr × Obj)) (H : Hp) (b : Addr) : Prop :=
  H b = none ∧ b ≠ X.env.locals ∧ b ∉ X.fs ∧ (b ∈ X.ex ∨ X.s_0.heap.objs.size ≤ b) ∧ (∀ x c, X.env.cells.lookup x = some c → c ≠ b) ∧ ∀ p ∈ X.pn ++ pins, p.1 ≠ b
theorem Inv.fpOk {X : Cx} {pins : List (Addr × Obj)} {σ : St} {H H' : Hp} {s : Shared} {b : Addr} (I : Inv X pins σ H s) (hb : s.heap.objs.size ≤ b) (hn : H' b = none) : FpOk X pins H' b := by
  refine ⟨hn, Nat.ne_of_gt (Nat.lt_of_lt_of_le I.lt hb), I.nofs hb, .inr (Nat.le_trans I.sz hb), fun x c e z => ?_, fun p hp z => ?_⟩
  · obtain ⟨v, q⟩ := I.cell x c e
    exact absurd (Nat.lt_of_lt_of_le q.lt (by rw [z]; exact hb)) (Nat.lt_irrefl _)
  · exact absurd (Nat.lt_of_lt_of_le (Heap.lt_size (I.pin p hp).1) (by rw [z]; exact hb)) (Nat.lt_irrefl _)
structure Turn (P : Program) (w : World) (K : PySem.W.Frag) (tg : Expr) (J : It) (fp : List Addr) (it : Addr) (tn : Nat → Heap → Prop) : Prop where
  mem : it ∈ fp
  obj : ∀ i h, tn i h → ∀ b ∈ fp, ∃ o, h.get? b = some o ∧ ∀ v, o.data ≠ .cell v
  keep : ∀ i h h', tn i h → (∀ b ∈ fp, ∀ o, h.get? b = some o → h'.get? b = some o) → tn i h'
  item : ∀ (X : Cx), X.prog = P → X.w = w → X.K = K → X.calm = true → ∀ (i : Nat) (pins : List (Addr × Obj)) (s : Shared) (σ : St) (H : Hp) (E : Value → Shared → Prop), Inv X pins σ H s → (∀ b ∈ fp, FpOk X pins H b) → tn i s.heap → J.go i H →
    wpAny (model P w) X.A (pyNext (.ref it)) (fun r s1 => ∃ u, r = some u ∧
      wpAny (model P w) X.A (letOwnedTupleGo tg (.ref it) u) (fun _ s2 => ∃ x H', Inv X pins σ H' s2 ∧ RelV x u ∧ J.yld i H x H' ∧ tn (i + 1) s2.heap ∧ ∀ b ∈ fp, H' b = none) E s1) E s
  done : ∀ (X : Cx), X.prog = P → X.w = w → X.K = K → X.calm = true → ∀ (i : Nat) (pins : List (Addr × Obj)) (s : Shared) (σ : St) (H : Hp) (E : Value → Shared → Prop), Inv X pins σ H s → (∀ b ∈ fp, FpOk X pins H b) → tn i s.heap → J.stop i H →
    wpAny (model P w) X.A (pyNext (.ref it)) (fun r s1 => r = none ∧ Inv X pins σ H s1) E s
  self : ∀ (A : Around) (i : Nat) (s : Shared) (Q : Value → Shared → Prop) (E : Value → Shared → Prop), tn i s.heap → Q (.ref it) s → wpAny (model P w) A (pyIter (.ref it)) Q E s
abbrev TI := St → Hp → (It → Hp → Prop) → Prop
def PIE (X : Cx) (pins : List (Addr × Obj)) (σ : St) (tg : Expr) (R : It → Hp → Prop) (itv : Value) (s2 : Shared) : Prop :=
  ∃ (it : Addr) (fp : List Addr) (tn : Nat → Heap → Prop) (J : It) (H' : Hp), itv = .ref it ∧ Inv X pins σ H' s2 ∧ Turn X.prog X.w X.K tg J fp it tn ∧ tn 0 s2.heap ∧ (∀ b ∈ fp, FpOk X pins H' b) ∧ R J H'
def PI (X : Cx) (tg iter : Expr) (wi : TI) : Prop :=
  ∀ (pins : List (Addr × Obj)) (s : Shared) (σ : St) (H : Hp) (R : It → Hp → Prop), Inv X pins σ H s → wi σ H R →
    wpAny (model X.prog X.w) X.A (eval iter X.env) (fun v s1 => wpAny (model X.prog X.w) X.A (pyIter v) (PIE X pins σ tg R) X.xe s1) X.xe s
theorem go_of {M : Model} {A : Around} {E : Value → Shared → Prop} {s : Shared} {tg : Expr} {it : Addr} {u : Value} {o : Obj} {n : String} {vs : Array Value} {Q : Unit → Shared → Prop} (ho : s.heap.get? it = some o) (hc : o.cls = .type n) (hd : o.data = .fields vs)
    (hn : ["enumerate", "zip", "dict_itemiterator", "dict_reverseitemiterator", "odict_iterator", "itertools.zip_longest", "itertools.pairwise"].contains n = false) (hQ : Q () s) : wpAny M A (letOwnedTupleGo tg (.ref it) u) Q E s := by
  unfold letOwnedTupleGo
  cases tg <;> first
    | exact wpAny_pure hQ
    | (cases u <;> first
        | exact wpAny_pure hQ
        | (refine wpAny_bind (wpAny_load ho ?_)
           rw [hc, hd]
           show wpAny M A (if (["enumerate", "zip", "dict_itemiterator", "dict_reverseitemiterator", "odict_iterator", "itertools.zip_longest", "itertools.pairwise"].contains n && vs[0]? == some (rawInt _)) = true then _ else _) Q E s
           rw [if_neg (by intro h; rw [hn, Bool.false_and] at h; cases h)]
           exact wpAny_pure hQ))
def Itl (K : PySem.W.Frag) (a : Addr) : It :=
  ⟨fun i H => ∃ xs x, SqL K H a xs ∧ xs[i]? = some x, fun i H x H' => H' = H ∧ ∀ xs, SqL K H a xs → xs[i]? = some x, fun i H => ∃ xs, SqL K H a xs ∧ xs.length ≤ i⟩
def Itt (K : PySem.W.Frag) (a : Addr) : It :=
  ⟨fun i H => ∃ xs x, SqT K H a xs ∧ xs[i]? = some x, fun i H x H' => H' = H ∧ ∀ xs, SqT K H a xs → xs[i]? = some x, fun i H => ∃ xs, SqT K H a xs ∧ xs.length ≤ i⟩
def Itr (lo : Int) (n : Nat) : It := ⟨fun i _ => i < n, fun i H x H' => H' = H ∧ x = .int (lo + i), fun i _ => n ≤ i⟩
theorem turn_list {P : Program} {w : World} {K : PySem.W.Frag} {tg : Expr} (a it : Addr) : Turn P w K tg (Itl K a) [it] it (fun i h => h.IsListIter it a i) where
  mem := by simp
  obj := fun i h st b hb => by
    have e : b = it := by simpa using hb
    subst e
    obtain ⟨o, e, c, d⟩ := st
    exact ⟨o, e, fun v z => by rw [d] at z; cases z⟩
  keep := fun i h h' st k => st.at fun o e => k it (by simp) o e
  item := by
    intro X hP hw hK hc i pins s σ H E I hf st hg
    subst hP hw hK
    obtain ⟨xs, x, hq, hx⟩ := hg
    obtain ⟨its, rv, p, hz⟩ := I.list hq
    obtain ⟨u, hu, ru⟩ := rv.get hx
    obtain ⟨f0, f1, f2, f3, f4, f5⟩ := hf it (by simp)
    refine wpAny_pyNext_list_item st p.isList (x := u) (by simpa using hu) fun h' st' sb => ?_
    have I1 : Inv X pins σ H { s with heap := h' } := I.turned (t' := s.toks) (fun b o hb e => (sb.2 b hb).trans e) f0 f1 f3 f4 f5
    obtain ⟨o, e, c, d⟩ := id st'
    exact ⟨u, rfl, go_of (s := { s with heap := h' }) e c d (by decide) ⟨x, H, I1, ru, ⟨rfl, fun ys hy => by rw [I.list_inj hy hq]; exact hx⟩, st', fun b hb => (hf b hb).1⟩⟩
  done := by
    intro X hP hw hK hc i pins s σ H E I hf st hg
    subst hP hw hK
    obtain ⟨xs, hq, hx⟩ := hg
    obtain ⟨its, rv, p, hz⟩ := I.list hq
    obtain ⟨f0, f1, f2, f3, f4, f5⟩ := hf it (by simp)
    have hl := rv.length
    exact wpAny_pyNext_list_end (I.ok.hd hc) st p.isList (by simp; omega) fun h' eb => ⟨rfl, I.turned (t' := s.toks) (fun b o hb e => eb b o hb e) f0 f1 f3 f4 f5⟩
  self := fun _ _ _ _ _ st h => wpAny_pyIter_listiter st h
theorem turn_tuple {P : Program} {w : World} {K : PySem.W.Frag} {tg : Expr} (a it : Addr) : Turn P w K tg (Itt K a) [it] it (fun i h => h.IsTupleIter it a i) where
  mem := by simp
  obj := fun i h st b hb => by
    have e : b = it := by simpa using hb
    subst e
    obtain ⟨o, e, c, d⟩ := st
    exact ⟨o, e, fun v z => by rw [d] at z; cases z⟩
  keep := fun i h h' st k => st.at fun o e => k it (by simp) o e
  item := by
    intro X hP hw hK hc i pins s σ H E I hf st hg
    subst hP hw hK
    obtain ⟨xs, x, hq, hx⟩ := hg
    obtain ⟨its, rv, p, hz⟩ := I.tuple hq
    obtain ⟨u, hu, ru⟩ := rv.get hx
    obtain ⟨f0, f1, f2, f3, f4, f5⟩ := hf it (by simp)
    refine wpAny_pyNext_tuple_item st (show s.heap.IsTuple a its.toArray from p) (x := u) (by simpa using hu) fun h' st' sb => ?_
    have I1 : Inv X pins σ H { s with heap := h' } := I.turned (t' := s.toks) (fun b o hb e => (sb.2 b hb).trans e) f0 f1 f3 f4 f5
    obtain ⟨o, e, c, d⟩ := id st'
    exact ⟨u, rfl, go_of (s := { s with heap := h' }) e c d (by decide) ⟨x, H, I1, ru, ⟨rfl, fun ys hy => by rw [I.tuple_inj hy hq]; exact hx⟩, st', fun b hb => (hf b hb).1⟩⟩
  done := by
    intro X hP hw hK hc i pins s σ H E I hf st hg
    subst hP hw hK
    obtain ⟨xs, hq, hx⟩ := hg
    obtain ⟨its, rv, p, hz⟩ := I.tuple hq
    obtain ⟨f0, f1, f2, f3, f4, f5⟩ := hf it (by simp)
    have hl := rv.length
    exact wpAny_pyNext_tuple_end (I.ok.hd hc) st (show s.heap.IsTuple a its.toArray from p) (by simp; omega) fun h' eb => ⟨rfl, I.turned (t' := s.toks) (fun b o hb e => eb b o hb e) f0 f1 f3 f4 f5⟩
  self := fun _ _ _ _ _ st h => wpAny_pyIter_tupleiter st h
theorem turn_range {P : Program} {w : World} {K : PySem.W.Frag} {tg : Expr} (it : Addr) (lo : Int) (n : Nat) : Turn P w K tg (Itr lo n) [it] it (fun i h => IsRangeIter h it (lo + (i : Nat) * 1) ((n : Int) - (i : Nat)) 1) where
  mem := by simp
  obj := fun i h st b hb => by
    have e : b = it := by simpa using hb
    subst e
    exact ⟨_, st, fun v z => by
      have z' : Data.fields _ = Data.cell v := z
      cases z'⟩
  keep := fun i h h' st k => k it (by simp) _ st
  item := by
    intro X hP hw hK hc i pins s σ H E I hf st hg
    subst hP hw hK
    obtain ⟨f0, f1, f2, f3, f4, f5⟩ := hf it (by simp)
    have W := Walks.range (prog := X.prog) (w := X.w) (I.ok.hd hc) it lo 1 n
    refine W.item i s _ _ hg st fun v h' tk hv st' kk => ?_
    obtain ⟨t, rfl⟩ := hv
    have I1 : Inv X pins σ H { s with heap := h', toks := tk } := I.turned (fun b o hb e => kk b o (by simpa using hb) e) f0 f1 f3 f4 f5
    refine ⟨_, rfl, go_of (s := { s with heap := h', toks := tk }) (n := "range_iterator") st' rfl rfl (by decide) ⟨.int (lo + i), H, I1, ⟨t, ?_⟩, ⟨rfl, rfl⟩, st', fun b hb => (hf b hb).1⟩⟩
    rw [Int.mul_one]
  done := by
    intro X hP hw hK hc i pins s σ H E I hf st hg
    subst hP hw hK
    obtain ⟨f0, f1, f2, f3, f4, f5⟩ := hf it (by simp)
    exact wpAny_pyNext_range_end (I.ok.hd hc) st (by have : n ≤ i := hg; omega) fun h' eb => ⟨rfl, I.turned (t' := s.toks) (fun b o hb e => eb b o hb e) f0 f1 f3 f4 f5⟩
  self := fun _ _ _ _ _ st h => wpAny_pyIter_rangeiter st h
section
variable {X : Cx} {tg : Expr}
def iList (K : PySem.W.Frag) (tl : TE) : TI := fun σ H R => tl σ H fun x H1 => ∃ a, x = .ref a ∧ (∃ xs, SqL K H1 a xs) ∧ R (Itl K a) H1
def iTup (K : PySem.W.Frag) (tl : TE) : TI := fun σ H R => tl σ H fun x H1 => ∃ a, x = .ref a ∧ (∃ xs, SqT K H1 a xs) ∧ R (Itt K a) H1
theorem pi_list {l : Expr} {tl : TE} (hl : PE X l tl) : PI X tg l (iList X.K tl) := by
  intro pins s σ H R I h
  refine thn (hl pins s σ H _ I h) fun v s1 ⟨x, H1, I1, r1, q1⟩ => ?_
  obtain ⟨a, e, ⟨xs, hq⟩, q⟩ := q1
  subst e
  cases r1
  obtain ⟨its, rv, p, hz⟩ := I1.list hq
  refine wpAny_pyIter_list p.isList ?_
  refine ⟨s1.heap.objs.size, [s1.heap.objs.size], _, _, H1, rfl, I1.kept (t' := s1.toks) fun b o e => Heap.get?_push_of_some _ e, turn_list a _, ⟨_, Heap.get?_push_size _ rfl, rfl, rfl⟩, fun b hb => ?_, q⟩
  have e : b = s1.heap.objs.size := by simpa using hb
  subst e
  exact I1.fpOk (Nat.le_refl _) (I1.hok.fresh (Nat.le_refl _))
theorem pi_tup {l : Expr} {tl : TE} (hl : PE X l tl) : PI X tg l (iTup X.K tl) := by
  intro pins s σ H R I h
  refine thn (hl pins s σ H _ I h) fun v s1 ⟨x, H1, I1, r1, q1⟩ => ?_
  obtain ⟨a, e, ⟨xs, hq⟩, q⟩ := q1
  subst e
  cases r1
  obtain ⟨its, rv, p, hz⟩ := I1.tuple hq
  refine wpAny_pyIter_tuple (show s1.heap.IsTuple a its.toArray from p) ?_
  refine ⟨s1.heap.objs.size, [s1.heap.objs.size], _, _, H1, rfl, I1.kept (t' := s1.toks) fun b o e => Heap.get?_push_of_some _ e, turn_tuple a _, ⟨_, Heap.get?_push_size _ rfl, rfl, rfl⟩, fun b hb => ?_, q⟩
  have e : b = s1.heap.objs.size := by simpa using hb
  subst e
  exact I1.fpOk (Nat.le_refl _) (I1.hok.fresh (Nat.le_refl _))
theorem range_it {pins : List (Addr × Obj)} {σ : St} {H : Hp} {s : Shared} {R : It → Hp → Prop} {E : Value → Shared → Prop} {lo hi : Int} {t u v : Tok} {tk : Nat} (I : Inv X pins σ H s) (h1 : -(2 ^ 62) ≤ lo) (h2 : lo < 2 ^ 62) (h3 : -(2 ^ 62) ≤ hi) (h4 : hi < 2 ^ 62)
    (q : R (Itr lo (hi - lo).toNat) H) : wpAny (model X.prog X.w) X.A (pyIter (.ref s.heap.objs.size)) (PIE X pins σ tg R) E { s with heap := s.heap.push { cls := .type "range", data := .fields #[.int lo t, .int hi u, .int 1 v] }, toks := tk } := by
  refine wpAny_pyIter_range (IsRange.new ..) (small_one h1 h2 h3 h4) ?_
  have I1 : Inv X pins σ H { s with heap := s.heap.push { cls := .type "range", data := .fields #[.int lo t, .int hi u, .int 1 v] }, toks := tk } := I.kept fun b o e => Heap.get?_push_of_some _ e
  refine ⟨(s.heap.push { cls := .type "range", data := .fields #[.int lo t, .int hi u, .int 1 v] }).objs.size, [(s.heap.push { cls := .type "range", data := .fields #[.int lo t, .int hi u, .int 1 v] }).objs.size], _, _, H, rfl,
    I1.kept (t' := tk) fun b o e => Heap.get?_push_of_some _ e, turn_range _ lo (hi - lo).toNat, ?_, fun b hb => ?_, q⟩
  · have e1 : lo + ((0 : Nat) : Int) * 1 = lo := by simp
    have e2 : (((hi - lo).toNat : Nat) : Int) - ((0 : Nat) : Int) = Builtin.Range.rangeSize lo hi 1 := by rw [rangeSize_one]; split <;> omega
    show IsRangeIter _ _ (lo + ((0 : Nat) : Int) * 1) ((((hi - lo).toNat : Nat) : Int) - ((0 : Nat) : Int)) 1
    rw [e1, e2]
    exact Heap.get?_push_size _ rfl
  · have e : b = (s.heap.push { cls := .type "range", data := .fields #[.int lo t, .int hi u, .int 1 v] }).objs.size := by simpa using hb
    subst e
    exact I1.fpOk (Nat.le_refl _) (I1.hok.fresh (Nat.le_refl _))
def iRng1 (ta : TA) : TI := fun σ H R => ta σ H fun vs H1 => ∃ j : Int, vs = [.int j] ∧ -(2 ^ 62) ≤ j ∧ j < 2 ^ 62 ∧ R (Itr 0 j.toNat) H1
theorem pi_range1 {a : Expr} {ta : TA} {p pos : Pos} (hg : Gl X "range") (hm : X.mg "range" = none) (ha : PA X [a] ta) (hs : starEach [a] X.env = [(false, eval a X.env)] := by rfl) : PI X tg (.Call (.Name "range" p) [a] [] pos) (iRng1 ta) := by
  intro pins s σ H R I h
  refine Call_ (ld_blt I hg hm boot_range (PyProof.Rows.callWith_type1 (thn (ha pos pins s σ H _ I h) fun us s1 ⟨vs, H1, I1, r1, q1⟩ => ?_) hs rfl))
  obtain ⟨j, e, q1, q2, q⟩ := q1
  subst e
  cases r1 with
  | cons r rr =>
    cases rr
    obtain ⟨t, rfl⟩ := r
    exact call_range_1 (range_it I1 (by omega) (by omega) q1 q2 (by simpa using q))
def tFor (wi : TI) (g : TG) (tb : TS) : TS := fun D σ H => wi σ H fun J H1 => ∃ W : Nat → Nat → St → Hp → Prop, (∃ m, W 0 m σ H1) ∧ ∀ i m σ H, W i m σ H →
  (J.stop i H ∧ D.nx σ H) ∨ (J.go i H ∧ ∃ N : St → Hp → Prop, (∀ σ' H', N σ' H' → ∃ m', m' < m ∧ W (i + 1) m' σ' H') ∧ ∀ x H', J.yld i H x H' → g x σ H' fun σ2 H2 => tb { D with nx := N, ct := N, bk := D.nx } σ2 H2)
def pinsAt (fp : List Addr) (h : Heap) : List (Addr × Obj) := fp.filterMap fun b => (h.get? b).map fun o => (b, o)
theorem mem_pinsAt {fp : List Addr} {h : Heap} {b : Addr} {o : Obj} (hb : b ∈ fp) (e : h.get? b = some o) : (b, o) ∈ pinsAt fp h := List.mem_filterMap.mpr ⟨b, hb, by rw [e]; rfl⟩
theorem of_pinsAt {fp : List Addr} {h : Heap} {p : Addr × Obj} (hp : p ∈ pinsAt fp h) : p.1 ∈ fp ∧ h.get? p.1 = some p.2 := by
  obtain ⟨b, hb, e⟩ := List.mem_filterMap.mp hp
  cases q : h.get? b with
  | none => rw [q] at e; cases e
  | some o =>
    rw [q] at e
    have e' : (b, o) = p := Option.some.inj e
    subst e'
    exact ⟨hb, q⟩
theorem Inv.pinned {pins : List (Addr × Obj)} {σ : St} {H : Hp} {s : Shared} {fp : List Addr} (I : Inv X pins σ H s) (hf : ∀ b ∈ fp, FpOk X pins H b) (ho : ∀ b ∈ fp, ∃ o, s.heap.get? b = some o ∧ ∀ v, o.data ≠ .cell v) : Inv X (pins ++ pinsAt fp s.heap) σ H s :=
  I.pins_of fun p hp => (List.mem_append.mp hp).elim (fun z => I.pin p (List.mem_append_right _ z)) fun z => by
    obtain ⟨hb, e⟩ := of_pinsAt z
    obtain ⟨f0, f1, f2, _⟩ := hf p.1 hb
    obtain ⟨o, e', d⟩ := ho p.1 hb
    rw [e] at e'; cases e'
    exact ⟨e, f0, f1, f2, d⟩
theorem Inv.unpinned {pins pl : List (Addr × Obj)} {σ : St} {H : Hp} {s : Shared} (I : Inv X (pins ++ pl) σ H s) : Inv X pins σ H s := I.pins_of fun p hp => I.pin p (List.mem_append_right _ (List.mem_append_left _ hp))
theorem ps_for {iter : Expr} {body : List Stmt} {wi : TI} {g : TG} {tb : TS} {pos : Pos} (hp : PassesOwn (model X.prog X.w) X.A X.env X.xe) (hc : X.calm = true) (hi : PI X tg iter wi) (hg : PG X tg g) (hb : PSs X body tb)
    (hs : ∀ x, foldedSetIterable iter X.env x = pure x := by intro _; rfl) : PS X (.For tg iter body [] pos) (tFor wi g tb) := by
  intro pins s σ H D I h
  refine wpAny_For (thn (hi pins s σ H _ I h) fun v s1 h1 => thn h1 fun itv s2 h2 => ?_) hs
  obtain ⟨it, fp, tn, J, H2, e, I2, T, st2, f2, W, ⟨m0, w0⟩, turn⟩ := h2
  subst e
  have stat : ∀ {H' : Hp}, (∀ b ∈ fp, H' b = none) → ∀ b ∈ fp, FpOk X pins H' b := fun hn b hb => ⟨hn b hb, (f2 b hb).2⟩
  refine codeAny_forLoop_any (fun n s' => ∃ i σ' H', Inv X pins σ' H' s' ∧ tn i s'.heap ∧ (∀ b ∈ fp, H' b = none) ∧ W i n σ' H') ?_ m0 ⟨0, σ, H2, I2, st2, fun b hb => (f2 b hb).1, w0⟩
  rintro n s3 ⟨i, σ3, H3, I3, st3, fr3, w3⟩
  rcases turn i n σ3 H3 w3 with ⟨stop, qn⟩ | ⟨go, N, hN, step⟩
  · refine wpAny_passesOwn hp (thn (T.done X rfl rfl rfl hc i pins s3 σ3 H3 X.xe I3 (stat fr3) st3 stop) fun r s4 ⟨hr, I4⟩ => ?_)
    subst hr
    exact wpAny_execs_nil ⟨σ3, H3, I4, qn⟩
  · refine wpAny_passesOwn hp (thn (T.item X rfl rfl rfl hc i pins s3 σ3 H3 X.xe I3 (stat fr3) st3 go) fun r s4 ⟨u, hr, h4⟩ => ?_)
    subst hr
    refine wpAny_passesOwn hp (thn h4 fun _ s5 ⟨x, H5, I5, r5, y5, st5, fr5⟩ => ?_)
    have I5' := I5.pinned (stat fr5) (T.obj _ _ st5)
    refine wpAny_passesOwn hp (thn (hg _ s5 σ3 H5 x u _ I5' r5 (step x H5 y5)) fun _ s6 ⟨σ6, H6, I6, q6⟩ => ?_)
    refine wpAny_passesOwn hp (thn (hb _ s6 σ6 H6 _ I6 q6) fun f s7 q7 => ?_)
    have again : ∀ {σ7 : St} {H7 : Hp}, Inv X (pins ++ pinsAt fp s5.heap) σ7 H7 s7 → N σ7 H7 → ∃ m, m < n ∧ ∃ i σ' H', Inv X pins σ' H' s7 ∧ tn i s7.heap ∧ (∀ b ∈ fp, H' b = none) ∧ W i m σ' H' := fun {σ7 H7} I7 n7 => by
      obtain ⟨m', hm, w7⟩ := hN σ7 H7 n7
      refine ⟨m', hm, i + 1, σ7, H7, I7.unpinned, T.keep _ _ _ st5 fun b hb o e => (I7.pin (b, o) (List.mem_append_right _ (List.mem_append_right _ (mem_pinsAt hb e)))).1, fun b hb => ?_, w7⟩
      obtain ⟨o, e, d⟩ := T.obj _ _ st5 b hb
      exact (I7.pin (b, o) (List.mem_append_right _ (List.mem_append_right _ (mem_pinsAt hb e)))).2.1
    cases f with
    | next => obtain ⟨σ7, H7, I7, n7⟩ := q7; exact again I7 n7
    | cont => obtain ⟨σ7, H7, I7, n7⟩ := q7; exact again I7 n7
    | brk => obtain ⟨σ7, H7, I7, q7⟩ := q7; exact ⟨σ7, H7, I7.unpinned, q7⟩
    | ret v => obtain ⟨x7, σ7, H7, I7, r7, q7⟩ := q7; exact ⟨x7, σ7, H7, I7.unpinned, r7, q7⟩
end
theorem for_list {K : PySem.W.Frag} {a : Addr} {xs : List V} {g : TG} {tb : TS} {D : Ends} {σ : St} {H : Hp} (Pv : Nat → St → Hp → Prop) (h0 : Pv 0 σ H) (hl : ∀ i σ H, i ≤ xs.length → Pv i σ H → SqL K H a xs)
    (hs : ∀ i x σ H, xs[i]? = some x → Pv i σ H → g x σ H fun σ2 H2 => tb { D with nx := Pv (i + 1), ct := Pv (i + 1), bk := D.nx } σ2 H2) (hd : ∀ σ H, Pv xs.length σ H → D.nx σ H) :
    ∃ W : Nat → Nat → St → Hp → Prop, (∃ m, W 0 m σ H) ∧ ∀ i m σ H, W i m σ H →
      ((Itl K a).stop i H ∧ D.nx σ H) ∨ ((Itl K a).go i H ∧ ∃ N : St → Hp → Prop, (∀ σ' H', N σ' H' → ∃ m', m' < m ∧ W (i + 1) m' σ' H') ∧ ∀ x H', (Itl K a).yld i H x H' → g x σ H' fun σ2 H2 => tb { D with nx := N, ct := N, bk := D.nx } σ2 H2) := by
  refine ⟨fun i m σ H => m = xs.length - i ∧ i ≤ xs.length ∧ Pv i σ H, ⟨xs.length, by simp, Nat.zero_le _, h0⟩, ?_⟩
  rintro i m σ H ⟨rfl, hi, p⟩
  have q := hl i σ H hi p
  by_cases hlt : i < xs.length
  · refine .inr ⟨⟨xs, xs[i], q, by simp [hlt]⟩, Pv (i + 1), fun σ' H' p' => ⟨xs.length - (i + 1), by omega, rfl, hlt, p'⟩, fun x H' y => ?_⟩
    obtain ⟨e, y⟩ := y
    subst e
    exact hs i x σ _ (y xs q) p
  · have e : i = xs.length := by omega
    subst e
    exact .inl ⟨⟨xs, q, Nat.le_refl _⟩, hd σ H p⟩
theorem for_tup {K : PySem.W.Frag} {a : Addr} {xs : List V} {g : TG} {tb : TS} {D : Ends} {σ : St} {H : Hp} (Pv : Nat → St → Hp → Prop) (h0 : Pv 0 σ H) (hl : ∀ i σ H, i ≤ xs.length → Pv i σ H → SqT K H a xs)
    (hs : ∀ i x σ H, xs[i]? = some x → Pv i σ H → g x σ H fun σ2 H2 => tb { D with nx := Pv (i + 1), ct := Pv (i + 1), bk := D.nx } σ2 H2) (hd : ∀ σ H, Pv xs.length σ H → D.nx σ H) :
    ∃ W : Nat → Nat → St → Hp → Prop, (∃ m, W 0 m σ H) ∧ ∀ i m σ H, W i m σ H →
      ((Itt K a).stop i H ∧ D.nx σ H) ∨ ((Itt K a).go i H ∧ ∃ N : St → Hp → Prop, (∀ σ' H', N σ' H' → ∃ m', m' < m ∧ W (i + 1) m' σ' H') ∧ ∀ x H', (Itt K a).yld i H x H' → g x σ H' fun σ2 H2 => tb { D with nx := N, ct := N, bk := D.nx } σ2 H2) := by
  refine ⟨fun i m σ H => m = xs.length - i ∧ i ≤ xs.length ∧ Pv i σ H, ⟨xs.length, by simp, Nat.zero_le _, h0⟩, ?_⟩
  rintro i m σ H ⟨rfl, hi, p⟩
  have q := hl i σ H hi p
  by_cases hlt : i < xs.length
  · refine .inr ⟨⟨xs, xs[i], q, by simp [hlt]⟩, Pv (i + 1), fun σ' H' p' => ⟨xs.length - (i + 1), by omega, rfl, hlt, p'⟩, fun x H' y => ?_⟩
    obtain ⟨e, y⟩ := y
    subst e
    exact hs i x σ _ (y xs q) p
  · have e : i = xs.length := by omega
    subst e
    exact .inl ⟨⟨xs, q, Nat.le_refl _⟩, hd σ H p⟩
theorem for_range {lo : Int} {n : Nat} {g : TG} {tb : TS} {D : Ends} {σ : St} {H : Hp} (Pv : Nat → St → Hp → Prop) (h0 : Pv 0 σ H)
    (hs : ∀ i σ H, i < n → Pv i σ H → g (.int (lo + i)) σ H fun σ2 H2 => tb { D with nx := Pv (i + 1), ct := Pv (i + 1), bk := D.nx } σ2 H2) (hd : ∀ σ H, Pv n σ H → D.nx σ H) :
    ∃ W : Nat → Nat → St → Hp → Prop, (∃ m, W 0 m σ H) ∧ ∀ i m σ H, W i m σ H →
      ((Itr lo n).stop i H ∧ D.nx σ H) ∨ ((Itr lo n).go i H ∧ ∃ N : St → Hp → Prop, (∀ σ' H', N σ' H' → ∃ m', m' < m ∧ W (i + 1) m' σ' H') ∧ ∀ x H', (Itr lo n).yld i H x H' → g x σ H' fun σ2 H2 => tb { D with nx := N, ct := N, bk := D.nx } σ2 H2) := by
  refine ⟨fun i m σ H => m = n - i ∧ i ≤ n ∧ Pv i σ H, ⟨n, by simp, Nat.zero_le _, h0⟩, ?_⟩
  rintro i m σ H ⟨rfl, hi, p⟩
  by_cases hlt : i < n
  · refine .inr ⟨hlt, Pv (i + 1), fun σ' H' p' => ⟨n - (i + 1), by omega, rfl, hlt, p'⟩, fun x H' y => ?_⟩
    obtain ⟨e, y⟩ := y
    subst e y
    exact hs i σ _ hlt p
  · have e : i = n := by omega
    subst e
    exact .inl ⟨Nat.le_refl _, hd σ H p⟩
abbrev R2 := V → V → Hp → VK → Prop
def OpR (X : Cx) (f : Value → Value → Sem Value) (r : R2) : Prop :=
  ∀ (pins : List (Addr × Obj)) (s : Shared) (σ : St) (H : Hp) (x y : V) (v u : Value) (Q : VK), Inv X pins σ H s → RelV x v → RelV y u → r x y H Q →
    wpAny (model X.prog X.w) X.A (f v u) (EP X pins σ Q) X.xe s
def UnR (X : Cx) (f : Value → Sem Value) (r : V → Hp → VK → Prop) : Prop :=
  ∀ (pins : List (Addr × Obj)) (s : Shared) (σ : St) (H : Hp) (x : V) (v : Value) (Q : VK), Inv X pins σ H s → RelV x v → r x H Q →
    wpAny (model X.prog X.w) X.A (f v) (EP X pins σ Q) X.xe s
def CallR (X : Cx) (f : Value) (r : List V → Hp → VK → Prop) : Prop :=
  ∀ (pins : List (Addr × Obj)) (s : Shared) (σ : St) (H : Hp) (xs : List V) (us : List Value) (Q : VK), Inv X pins σ H s → Vals xs us → r xs H Q →
    wpAny (model X.prog X.w) X.A (call f us) (EP X pins σ Q) X.xe s
def TruR (X : Cx) (r : V → Hp → (Bool → Hp → Prop) → Prop) : Prop :=
  ∀ (pins : List (Addr × Obj)) (s : Shared) (σ : St) (H : Hp) (x : V) (v : Value) (Q : Bool → Hp → Prop), Inv X pins σ H s → RelV x v → r x H Q →
    wpAny (model X.prog X.w) X.A (truthy v) (TP X pins σ Q) X.xe s
def tOp (r : R2) (ta tb : TE) : TE := fun σ H Q => ta σ H fun x H1 => tb σ H1 fun y H2 => r x y H2 Q
def tUn (r : V → Hp → VK → Prop) (ta : TE) : TE := fun σ H Q => ta σ H fun x H1 => r x H1 Q
def rI (C : Int → Int → Prop) (g : Int → Int → V) : R2 := fun x y H Q => ∃ i j, x = .int i ∧ y = .int j ∧ C i j ∧ Q (g i j) H
def rI0 (g : Int → Int → V) : R2 := fun x y H Q => ∃ i j, x = .int i ∧ y = .int j ∧ Q (g i j) H
def rU (g : Int → V) : V → Hp → VK → Prop := fun x H Q => ∃ i, x = .int i ∧ Q (g i) H
section
variable {X : Cx} {a b c : Expr} {ta tb tc : TE} {pos : Pos}
theorem binT (ha : PE X a ta) (hb : PE X b tb) {pins : List (Addr × Obj)} {s : Shared} {σ : St} {H : Hp} {R : V → V → Hp → Prop} (I : Inv X pins σ H s)
    (h : ta σ H fun x H1 => tb σ H1 fun y H2 => R x y H2) {Q : Value → Shared → Prop} {f : Value → Value → Sem Value}
    (hf : ∀ v u s2 x y H2, Inv X pins σ H2 s2 → RelV x v → RelV y u → R x y H2 → wpAny (model X.prog X.w) X.A (f v u) Q X.xe s2) :
    wpAny (model X.prog X.w) X.A (eval a X.env) (fun v s₁ => wpAny (model X.prog X.w) X.A (eval b X.env) (fun u s₂ => wpAny (model X.prog X.w) X.A (f v u) Q X.xe s₂) X.xe s₁) X.xe s := by
  refine thn (ha pins s σ H _ I h) fun v s1 ⟨x, H1, I1, r1, q1⟩ => ?_
  refine thn (hb pins s1 σ H1 _ I1 q1) fun u s2 ⟨y, H2, I2, r2, q2⟩ => ?_
  exact hf v u s2 x y H2 I2 r1 r2 q2
theorem pe_op {op : Operator} {r : R2} (ho : OpR X (binaryOp op) r) (ha : PE X a ta) (hb : PE X b tb) : PE X (.BinOp a op b pos) (tOp r ta tb) := by
  intro pins s σ H Q I h
  exact wpAny_BinOp (binT ha hb I h fun v u s2 x y H2 I2 rx ry q => ho pins s2 σ H2 x y v u Q I2 rx ry q)
theorem pe_un {op : UnaryOp} {r : V → Hp → VK → Prop} (ho : UnR X (unaryOp op) r) (ha : PE X a ta) : PE X (.UnaryOp op a pos) (tUn r ta) := by
  intro pins s σ H Q I h
  exact UnaryOp_ (thn (ha pins s σ H _ I h) fun v s1 ⟨x, H1, I1, r1, q1⟩ => ho pins s1 σ H1 x v Q I1 r1 q1)
theorem opI {f : Value → Value → Sem Value} {C : Int → Int → Prop} {g : Int → Int → Int}
    (rule : ∀ (i j : Int) (t u : Tok) (s : Shared) (Q : Value → Shared → Prop) (E : Value → Shared → Prop), C i j → Q (.int (g i j) s.toks) { s with toks := s.toks + 1 } → wpAny (model X.prog X.w) X.A (f (.int i t) (.int j u)) Q E s) :
    OpR X f (rI C fun i j => .int (g i j)) := by
  intro pins s σ H x y v u Q I rx ry h
  obtain ⟨i, j, rfl, rfl, hc, q⟩ := h
  obtain ⟨t, rfl⟩ := rx
  obtain ⟨t', rfl⟩ := ry
  exact rule i j t t' s _ _ hc ⟨.int (g i j), H, I.tok _, ⟨_, rfl⟩, q⟩
theorem opI0 {f : Value → Value → Sem Value} {g : Int → Int → Int}
    (rule : ∀ (i j : Int) (t u : Tok) (s : Shared) (Q : Value → Shared → Prop) (E : Value → Shared → Prop), Q (.int (g i j) s.toks) { s with toks := s.toks + 1 } → wpAny (model X.prog X.w) X.A (f (.int i t) (.int j u)) Q E s) :
    OpR X f (rI0 fun i j => .int (g i j)) := by
  intro pins s σ H x y v u Q I rx ry h
  obtain ⟨i, j, rfl, rfl, q⟩ := h
  obtain ⟨t, rfl⟩ := rx
  obtain ⟨t', rfl⟩ := ry
  exact rule i j t t' s _ _ ⟨.int (g i j), H, I.tok _, ⟨_, rfl⟩, q⟩
theorem opB0 {f : Value → Value → Sem Value} {g : Int → Int → Bool}
    (rule : ∀ (i j : Int) (t u : Tok) (s : Shared) (Q : Value → Shared → Prop) (E : Value → Shared → Prop), Q (.bool (g i j)) s → wpAny (model X.prog X.w) X.A (f (.int i t) (.int j u)) Q E s) :
    OpR X f (rI0 fun i j => .bl (g i j)) := by
  intro pins s σ H x y v u Q I rx ry h
  obtain ⟨i, j, rfl, rfl, q⟩ := h
  obtain ⟨t, rfl⟩ := rx
  obtain ⟨t', rfl⟩ := ry
  exact rule i j t t' s _ _ ⟨.bl (g i j), H, I, rfl, q⟩
def CDiv (i j : Int) : Prop := 0 < j ∧ j < 1073741824
def CPow (i j : Int) : Prop := 0 ≤ j ∧ j ≤ 1000000 ∧ i.natAbs < 2 ^ 64
theorem two_pow_nn (k : Nat) : (0 : Int) ≤ 2 ^ k := by
  rw [two_pow_cast]
  exact Int.natCast_nonneg _
theorem op_add : OpR X (binaryOp .Add) (rI0 fun i j => .int (i + j)) := opI0 fun _ _ _ _ _ _ _ q => add_int q
theorem op_sub : OpR X (binaryOp .Sub) (rI0 fun i j => .int (i - j)) := opI0 fun _ _ _ _ _ _ _ q => sub_int q
theorem op_fdiv : OpR X (binaryOp .FloorDiv) (rI CDiv fun i j => .int (i / j)) := opI fun i j _ _ _ _ _ hc q => by
  have h1 : (0 : Int) < j := hc.1
  have h2 : j < 1073741824 := hc.2
  exact floordiv_int (by omega) (by rw [Int.fdiv_eq_ediv_of_nonneg i (by omega)]; exact q) (.inl (PyProof.noPylong_small (by omega)))
theorem op_mod : OpR X (binaryOp .Mod) (rI (fun _ j => 0 < j) fun i j => .int (i % j)) := opI fun i j _ _ _ _ _ hc q => by
  have h1 : (0 : Int) < j := hc
  exact mod_int' (by omega) (by rw [Int.fmod_eq_emod_of_nonneg i (by omega)]; exact q)
theorem op_shl : OpR X (binaryOp .LShift) (rI CPow fun i j => .int (i * 2 ^ j.toNat)) := opI fun _ _ _ _ _ _ _ hc q => lshift_int_small hc.1 hc.2.1 hc.2.2 q
theorem op_shr : OpR X (binaryOp .RShift) (rI (fun _ j => 0 ≤ j) fun i j => .int (i / 2 ^ j.toNat)) := opI fun i j _ _ _ _ _ hc q =>
  rshift_int hc (by rw [Int.fdiv_eq_ediv_of_nonneg i (two_pow_nn _)]; exact q)
theorem op_and : OpR X (binaryOp .BitAnd) (rI0 fun i j => .int (Builtin.bitAnd i j)) := opI0 fun _ _ _ _ _ _ _ q => and_int q
theorem op_or : OpR X (binaryOp .BitOr) (rI0 fun i j => .int (Builtin.bitOr i j)) := opI0 fun _ _ _ _ _ _ _ q => or_int q
theorem op_xor : OpR X (binaryOp .BitXor) (rI0 fun i j => .int (Builtin.bitXor i j)) := opI0 fun _ _ _ _ _ _ _ q => xor_int q
theorem unI {f : Value → Sem Value} {g : Int → Int}
    (rule : ∀ (i : Int) (t : Tok) (s : Shared) (Q : Value → Shared → Prop) (E : Value → Shared → Prop), Q (.int (g i) s.toks) { s with toks := s.toks + 1 } → wpAny (model X.prog X.w) X.A (f (.int i t)) Q E s) :
    UnR X f (rU fun i => .int (g i)) := by
  intro pins s σ H x v Q I rx h
  obtain ⟨i, rfl, q⟩ := h
  obtain ⟨t, rfl⟩ := rx
  exact rule i t s _ _ ⟨.int (g i), H, I.tok _, ⟨_, rfl⟩, q⟩
theorem un_neg : UnR X (unaryOp .USub) (rU fun i => .int (-i)) := unI fun _ _ _ _ _ q => neg_int q
end
def scal : V → V → Bool
  | .non, .non => true | .non, .int _ => true | .int _, .non => true | .non, .bl _ => true | .bl _, .non => true | .non, .str _ => true | .str _, .non => true
  | .int _, .int _ => true | .bl _, .bl _ => true | .str _, .str _ => true | .byt _, .byt _ => true
  | .int _, .str _ => true | .str _, .int _ => true | .bl _, .str _ => true | .str _, .bl _ => true
  | _, _ => false
def rEq : R2 := fun x y H Q => scal x y = true ∧ Q (.bl (decide (x = y))) H
def rNe : R2 := fun x y H Q => scal x y = true ∧ Q (.bl (!decide (x = y))) H
theorem dec_int {i j : Int} : decide (V.int i = V.int j) = (i == j) := by
  rw [Bool.eq_iff_iff]
  simp
theorem dec_bl {i j : Bool} : decide (V.bl i = V.bl j) = (i == j) := by
  rw [Bool.eq_iff_iff]
  simp
theorem dec_str {i j : Str} : decide (V.str i = V.str j) = (i == j) := by
  rw [Bool.eq_iff_iff]
  simp
theorem dec_byt {i j : Array UInt8} : decide (V.byt i = V.byt j) = (i.toList == j.toList) := by
  rw [Bool.eq_iff_iff]
  cases i
  cases j
  simp
section
variable {X : Cx} {a b c : Expr} {ta tb tc : TE} {pos : Pos}
theorem fin_bl {pins : List (Addr × Obj)} {σ : St} {H : Hp} {s : Shared} {Q : VK} {k k' : Bool} (I : Inv X pins σ H s) (q : Q (.bl k) H) (e : k = k') : EP X pins σ Q (.bool k') s := by
  subst e
  exact ⟨.bl k, H, I, rfl, q⟩
theorem op_eq : OpR X (compareOp .Eq) rEq := by
  intro pins s σ H x y v u Q I rx ry h
  obtain ⟨hs, q⟩ := h
  cases x with
  | non =>
    cases rx
    cases y with
    | non => cases ry; exact PySem.EqNone.eq_none_none (fin_bl I q (by simp))
    | bl j => cases ry; exact PySem.EqNone.eq_none_bool (fin_bl I q (by simp))
    | int j => obtain ⟨t', rfl⟩ := ry; exact PySem.EqNone.eq_none_int (fin_bl I q (by simp))
    | str j => obtain ⟨t', rfl⟩ := ry; exact PySem.EqNone.eq_none_str (fin_bl I q (by simp))
    | _ => exact absurd (show false = true from hs) Bool.false_ne_true
  | bl i =>
    cases rx
    cases y with
    | non => cases ry; exact PySem.EqNone.eq_bool_none (fin_bl I q (by simp))
    | bl j => cases ry; exact eq_bool (fin_bl I q dec_bl)
    | str j => obtain ⟨t', rfl⟩ := ry; exact PySem.EqMixed.eq_bool_str (fin_bl I q (by simp))
    | _ => exact absurd (show false = true from hs) Bool.false_ne_true
  | int i =>
    obtain ⟨t, rfl⟩ := rx
    cases y with
    | non => cases ry; exact PySem.EqNone.eq_int_none (fin_bl I q (by simp))
    | int j => obtain ⟨t', rfl⟩ := ry; exact eq_int (fin_bl I q dec_int)
    | str j => obtain ⟨t', rfl⟩ := ry; exact PySem.EqMixed.eq_int_str (fin_bl I q (by simp))
    | _ => exact absurd (show false = true from hs) Bool.false_ne_true
  | str i =>
    obtain ⟨t, rfl⟩ := rx
    cases y with
    | non => cases ry; exact PySem.EqNone.eq_str_none (fin_bl I q (by simp))
    | bl j => cases ry; exact PySem.EqMixed.eq_str_bool (fin_bl I q (by simp))
    | int j => obtain ⟨t', rfl⟩ := ry; exact PySem.EqMixed.eq_str_int (fin_bl I q (by simp))
    | str j => obtain ⟨t', rfl⟩ := ry; exact eq_str (fin_bl I q dec_str)
    | _ => exact absurd (show false = true from hs) Bool.false_ne_true
  | byt i =>
    obtain ⟨t, rfl⟩ := rx
    cases y with
    | byt j => obtain ⟨t', rfl⟩ := ry; exact PySem.W.eq_bytes (fin_bl I q dec_byt)
    | _ => exact absurd (show false = true from hs) Bool.false_ne_true
  | _ => cases y <;> exact absurd (show false = true from hs) Bool.false_ne_true
theorem op_ne : OpR X (compareOp .NotEq) rNe := by
  intro pins s σ H x y v u Q I rx ry h
  obtain ⟨hs, q⟩ := h
  cases x with
  | non =>
    cases rx
    cases y with
    | non => cases ry; exact PySem.EqNone.ne_none_none (fin_bl I q (by simp))
    | bl j => cases ry; exact PySem.EqNone.ne_none_bool (fin_bl I q (by simp))
    | int j => obtain ⟨t', rfl⟩ := ry; exact PySem.EqNone.ne_none_int (fin_bl I q (by simp))
    | str j => obtain ⟨t', rfl⟩ := ry; exact PySem.EqNone.ne_none_str (fin_bl I q (by simp))
    | _ => exact absurd (show false = true from hs) Bool.false_ne_true
  | bl i =>
    cases rx
    cases y with
    | non => cases ry; exact PySem.EqNone.ne_bool_none (fin_bl I q (by simp))
    | bl j => cases ry; exact ne_bool (fin_bl I q (congrArg not dec_bl))
    | str j => obtain ⟨t', rfl⟩ := ry; exact PySem.EqMixed.ne_bool_str (fin_bl I q (by simp))
    | _ => exact absurd (show false = true from hs) Bool.false_ne_true
  | int i =>
    obtain ⟨t, rfl⟩ := rx
    cases y with
    | non => cases ry; exact PySem.EqNone.ne_int_none (fin_bl I q (by simp))
    | int j => obtain ⟨t', rfl⟩ := ry; exact ne_int (fin_bl I q (congrArg not dec_int))
    | str j => obtain ⟨t', rfl⟩ := ry; exact PySem.EqMixed.ne_int_str (fin_bl I q (by simp))
    | _ => exact absurd (show false = true from hs) Bool.false_ne_true
  | str i =>
    obtain ⟨t, rfl⟩ := rx
    cases y with
    | non => cases ry; exact PySem.EqNone.ne_str_none (fin_bl I q (by simp))
    | bl j => cases ry; exact PySem.EqMixed.ne_str_bool (fin_bl I q (by simp))
    | int j => obtain ⟨t', rfl⟩ := ry; exact PySem.EqMixed.ne_str_int (fin_bl I q (by simp))
    | str j => obtain ⟨t', rfl⟩ := ry; exact ne_str (fin_bl I q (congrArg not dec_str))
    | _ => exact absurd (show false = true from hs) Bool.false_ne_true
  | byt i =>
    obtain ⟨t, rfl⟩ := rx
    cases y with
    | byt j => obtain ⟨t', rfl⟩ := ry; exact PySem.W.ne_bytes (fin_bl I q (congrArg not dec_byt))
    | _ => exact absurd (show false = true from hs) Bool.false_ne_true
  | _ => cases y <;> exact absurd (show false = true from hs) Bool.false_ne_true
theorem op_lt : OpR X (compareOp .Lt) (rI0 fun i j => .bl (decide (i < j))) := opB0 fun _ _ _ _ _ _ _ q => lt_int q
theorem op_le : OpR X (compareOp .LtE) (rI0 fun i j => .bl (decide (i ≤ j))) := opB0 fun _ _ _ _ _ _ _ q => le_int q
theorem op_gt : OpR X (compareOp .Gt) (rI0 fun i j => .bl (decide (j < i))) := opB0 fun _ _ _ _ _ _ _ q => gt_int q
theorem op_ge : OpR X (compareOp .GtE) (rI0 fun i j => .bl (decide (j ≤ i))) := opB0 fun _ _ _ _ _ _ _ q => ge_int q
theorem op_isN : OpR X (compareOp .Is) (fun x y H Q => y = .non ∧ Q (.bl (decide (x = .non))) H) := by
  intro pins s σ H x y v u Q I rx ry h
  obtain ⟨rfl, q⟩ := h
  cases ry
  refine is_none_gen (fin_bl I q ?_)
  cases x <;> first
    | (cases rx; rfl)
    | (obtain ⟨t, rfl⟩ := rx; rfl)
theorem nomark (b : Expr) {op : CmpOp} (h : op ≠ .In := by decide) (h2 : op ≠ .NotIn := by decide) : behindInMarks op b = false := by
  have e1 : (op == CmpOp.In) = false := by cases op <;> first | rfl | exact absurd rfl h
  have e2 : (op == CmpOp.NotIn) = false := by cases op <;> first | rfl | exact absurd rfl h2
  cases b <;> simp [behindInMarks, e1, e2]
theorem pe_cmpR {op : CmpOp} {r : R2} (ho : OpR X (compareOp op) r) (ha : PE X a ta) (hb : PE X b tb) (hm : behindInMarks op b = false) : PE X (.Compare a [op] [b] pos) (tOp r ta tb) := by
  intro pins s σ H Q I h
  exact wpAny_Compare1 (binT ha hb I h fun v u s2 x y H2 I2 rx ry q => ho pins s2 σ H2 x y v u Q I2 rx ry q) hm
def tTest (t : TE) : TT := fun σ H Q => t σ H fun x H' => ∃ k, x = .bl k ∧ Q k H'
theorem pt_cmpR {op : CmpOp} {r : R2} (ho : OpR X (compareOp op) r) (ha : PE X a ta) (hb : PE X b tb) (hm : behindInMarks op b = false) : PT X (.Compare a [op] [b] pos) (tTest (tOp r ta tb)) := by
  intro pins s σ H Q I h
  refine wpAny_isTrue_Compare1 (thn (ha pins s σ H _ I h) fun v s1 ⟨x, H1, I1, r1, q1⟩ => thn (hb pins s1 σ H1 _ I1 q1) fun u s2 ⟨y, H2, I2, r2, q2⟩ =>
    thn (ho pins s2 σ H2 x y v u _ I2 r1 r2 q2) fun c s3 ⟨z, H3, I3, r3, k, e, q3⟩ => ?_) hm
  subst e
  cases r3
  exact wpAny_truthy_bool ⟨H3, I3, q3⟩
def TruV (K : PySem.W.Frag) (x : V) (H : Hp) (k : Bool) : Prop :=
  match x with
  | .non => k = false
  | .bl b => k = b
  | .int i => k = (i != 0)
  | .str y => y.length ≤ sizeLine ∧ k = ((y.length : Int) != 0)
  | .byt y => y.size ≤ sizeLine ∧ k = ((y.size : Int) != 0)
  | .ref p => (∃ xs, SqL K H p xs ∧ k = !xs.isEmpty) ∨ (∃ xs, SqT K H p xs ∧ k = !xs.isEmpty) ∨ ∃ kvs, H p = some (.dK kvs) ∧ k = !kvs.isEmpty
  | _ => False
theorem isEmpty_kv {κ : Type} {kvs : List (κ × V)} {vs : List (κ × Value)} (r : KV kvs vs) : (!vs.isEmpty) = !kvs.isEmpty := by
  cases r <;> rfl
theorem isEmpty_of {xs : List V} {its : List Value} (r : Vals xs its) : (!its.toArray.isEmpty) = !xs.isEmpty := by
  cases r <;> simp
theorem line63 : (sizeLine : Nat) < 2 ^ 63 := by rw [sizeLine_eq]; decide
theorem tru_ok : TruR X (fun x H Q => ∃ k, TruV X.K x H k ∧ Q k H) := by
  intro pins s σ H x v Q I rx h
  obtain ⟨k, e, q⟩ := h
  have hl := line63
  have hs : sizeLine = 16777216 := sizeLine_eq
  cases x with
  | non =>
    cases rx
    have e' : k = false := e
    subst e'
    exact truthy_none ⟨H, I, q⟩
  | bl b =>
    cases rx
    have e' : k = b := e
    subst e'
    exact wpAny_truthy_bool ⟨H, I, q⟩
  | int i =>
    obtain ⟨t, rfl⟩ := rx
    have e' : k = (i != 0) := e
    subst e'
    exact PySem.P.truthy_int ⟨H, I, q⟩
  | str y =>
    obtain ⟨t, rfl⟩ := rx
    obtain ⟨hy, e'⟩ : y.length ≤ sizeLine ∧ k = ((y.length : Int) != 0) := e
    subst e'
    exact PySem.P.truthy_str (by omega) ⟨H, I.tok _, q⟩
  | byt y =>
    obtain ⟨t, rfl⟩ := rx
    obtain ⟨hy, e'⟩ : y.size ≤ sizeLine ∧ k = ((y.size : Int) != 0) := e
    subst e'
    exact PySem.W.truthy_bytes (by omega) ⟨H, I.tok _, q⟩
  | ref p =>
    cases rx
    have e' : (∃ xs, SqL X.K H p xs ∧ k = !xs.isEmpty) ∨ (∃ xs, SqT X.K H p xs ∧ k = !xs.isEmpty) ∨ ∃ kvs, H p = some (.dK kvs) ∧ k = !kvs.isEmpty := e
    rcases e' with ⟨xs, hx, e'⟩ | ⟨xs, hx, e'⟩ | ⟨kvs, hx, e'⟩
    · subst e'
      obtain ⟨its, r, pl, hz⟩ := I.list hx
      have hlen := r.length
      exact wpAny_truthy_list pl.isList (by simp only [List.size_toArray]; omega) ⟨H, I.tok _, by rw [isEmpty_of r]; exact q⟩
    · subst e'
      obtain ⟨its, r, pl, hz⟩ := I.tuple hx
      have hlen := r.length
      exact truthy_tuple pl (by simp only [List.size_toArray]; omega) ⟨H, I.tok _, by rw [isEmpty_of r]; exact q⟩
    · subst e'
      obtain ⟨hz, hS, vs, r, m⟩ : kvs.length ≤ sizeLine ∧ (p == sysModules) = false ∧ ∃ vs, KV kvs vs ∧ s.heap.DictOf (mixKind X.prog X.w) p vs := I.hok p _ hx
      have hlen : kvs.length = vs.length := Paired.length r
      exact wpAny_truthy_dict hS m (by omega) ⟨H, I.tok _, by rw [isEmpty_kv r]; exact q⟩
  | _ => exact (show False from e).elim
theorem pt_truth (ha : PE X a ta) (he : ∀ whole, isTrue a X.env whole = (do let v ← whole; standAt a.pos; holding [v] (truthy v))) :
    PT X a (fun σ H Q => ta σ H fun x H' => ∃ k, TruV X.K x H' k ∧ Q k H') := by
  intro pins s σ H Q I h
  exact isTrue_plain (thn (ha pins s σ H _ I h) fun v s1 ⟨x, H1, I1, r1, q1⟩ => tru_ok pins s1 σ H1 x v Q I1 r1 q1) (he _)
theorem vals1 {x : V} {us : List Value} (r : Vals [x] us) : ∃ u, us = [u] ∧ RelV x u := by
  cases r with
  | cons r1 r2 => cases r2; exact ⟨_, rfl, r1⟩
theorem call_ord : CallR X (.builtin "ord") (fun xs H Q => ∃ x, xs = [.str x] ∧ x.length = 1 ∧ Q (.int (x.cps.getD 0 0 : Nat)) H) := by
  intro pins s σ H xs us Q I r h
  obtain ⟨x, rfl, hz, q⟩ := h
  obtain ⟨u, rfl, t, rfl⟩ := vals1 r
  exact ord_of_one hz ⟨.int _, H, I.tok _, ⟨_, rfl⟩, q⟩
end
structure ObjM (h : Heap) (x dx C : Addr) (mA : Str → Option Value) : Prop where
  obj : h.get? x = some (PySem.W.instObj C dx)
  ns : h.Ns1 dx mA
  ne : dx ≠ x
theorem lookIn_ns {h : Heap} {dx : Addr} {mA : Str → Option Value} (n : h.Ns1 dx mA) : ∃ od, h.get? dx = some od ∧ ∀ name, PySem.W.lookIn name od = some (mA name) := by
  obtain ⟨o, es, ep, ho, hd, hk, _, hm⟩ := n
  refine ⟨o, ho, fun name => ?_⟩
  have e := hm name
  unfold nsFind findBy at e
  rw [← Array.find?_toList] at e
  unfold PySem.W.lookIn
  rw [hd]
  dsimp only
  split
  · rename_i y q
    rw [q] at e
    exact congrArg some e
  · rename_i q
    rw [q] at e
    have a : es.toList.any (·.refKey) = false := by
      rw [List.any_eq_false]
      intro y hy
      obtain ⟨z, t, hkey⟩ := hk y (Array.mem_toList_iff.mp hy)
      simp [DictEntry.refKey, hkey]
    have a' : ¬ es.toList.any (·.refKey) = true := by rw [a]; exact Bool.false_ne_true
    rw [if_neg a']
    exact congrArg some e
theorem ObjM.look {h : Heap} {x dx C : Addr} {mA : Str → Option Value} (I : ObjM h x dx C mA) : ∃ od, PySem.W.InstAt h x (PySem.W.instObj C dx) C (some od) ∧ ∀ name, PySem.W.lookIn name od = some (mA name) :=
  let ⟨od, ho, hl⟩ := lookIn_ns I.ns
  ⟨od, ⟨I.obj, rfl, rfl, ho⟩, hl⟩
section
variable {prog : Program} {w : World} {A : Around} {E : Value → Shared → Prop} {s : Shared} {K : PySem.W.Frag} {x dx C f : Addr} {mA : Str → Option Value} {name : Str} {v : Value}
theorem get_map {expr : Bool} {Q : Value → Shared → Prop} (X : K.In s.heap) (I : ObjM s.heap x dx C mA) (hg : PySem.W.plainGet K C name = true) (hh : PySem.W.hasDictIn K C = true)
    (ha : PySem.W.findIn K (.ref C) name = some none) (hv : mA name = some v) (hv' : PySem.W.handedIn v = true) (h : Q v { s with toks := s.toks + 1 }) :
    wpAny (model prog w) A (getAttr (.ref x) name expr) Q E s := by
  obtain ⟨od, J, hl⟩ := I.look
  exact PySem.W.get_value X J (PySem.W.plainGet_of hg).1 (PySem.W.findObj_own hh ha rfl (by rw [hl, hv])) hv' h
theorem get_meth {pl : Sem Bool} {Q : Value × List Value → Shared → Prop} (X : K.In s.heap) (I : ObjM s.heap x dx C mA) (hg : PySem.W.plainGet K C name = true)
    (hf : PySem.W.findIn K (.ref C) name = some (some (.ref f))) (ht : PySem.W.isFn K (.ref f) = true) (hv : mA name = none) (h : Q (.ref f, [.ref x]) s) :
    wpAny (model prog w) A (getMethod (.ref x) name pl) Q E s := by
  obtain ⟨od, J, hl⟩ := I.look
  exact PySem.W.method_fn X J (PySem.W.plainGet_of hg).1 (PySem.W.plainGet_of hg).2 hf (beq_iff_eq.mp ht) (by show (PySem.W.lookIn name od).map (·.isSome) = some false; rw [hl, hv]; rfl) h
theorem set_map {ns : List Str} {Q : Unit → Shared → Prop} (X : K.In s.heap) (I : ObjM s.heap x dx C mA)
    (hs : PySem.W.findIn K (.ref C) "__setattr__" = some (some (.builtin "object.__setattr__"))) (hp : PySem.W.plainOver K C = true) (ht : PySem.W.takerIn K C name = some none) (hh : PySem.W.hasDictIn K C = true)
    (hw : PySem.Within mA ns) (hsz : ns.length ≤ sizeLine)
    (h : ∀ h', ObjM h' x dx C (fun y => if y = name then some v else mA y) → Heap.SameBut dx s.heap h' → Q () { s with heap := h', toks := s.toks + 2 }) :
    wpAny (model prog w) A (setAttr (.ref x) name v) Q E s := by
  obtain ⟨od, J, hl⟩ := I.look
  refine PySem.W.set_plain X J hs (PySem.W.osa_open (s := { s with toks := s.toks + 1 }) (r := none) X J hp ht fun b => ?_)
  obtain ⟨cd, hc, hd'⟩ := PySem.W.any_some hh
  have hx : s.heap.get? x = some ⟨.ref C, some dx, .plain, #[]⟩ := I.obj
  refine wpAny_bind (wpAny_pure (wpAny_bind (wpAny_bind (wpAny_loadPart hx (wpAny_bind (PySem.W.Looks.here (s := { s with toks := s.toks + 1 }) (PySem.W.looks_clsIn X hc) ?_))))))
  rw [hd']
  refine wpAny_pure (a := some dx) (wpAny_bind (wpAny_pure (wpAny_bind ?_)))
  refine wpAny_nsSet1 (s := { s with toks := s.toks + 1 }) I.ns fun h' hn2 hs2 => ?_
  obtain ⟨oD, esD, epD, hoD, hdD, hcD⟩ := hn2.count (PySem.Within.cons name v hw)
  refine wpAny_bind (wpAny_lookBehind hoD (by rw [hdD]; exact pastItsLine_dict (Nat.le_trans hcD (by rw [List.length_cons]; omega))) ?_)
  exact wpAny_pure (h _ ⟨(hs2.2 _ (Ne.symm I.ne)).trans I.obj, hn2, I.ne⟩ hs2)
theorem make_map {R : Result → Shared → Prop} {vs : List Value} {kw : List (Str × Value)} (X : K.In s.heap) (hm : PySem.W.makesIn K C = true)
    (hi : PySem.W.findIn K (.ref C) "__init__" = some (some (.ref f))) (hf : PySem.W.typeIn K (.ref f) = some (.type "function"))
    (h : codeAny (model prog w) (A.under (.builtin "type.__call__" ⟨.ref C :: vs, kw⟩)) (.call (.ref f) ⟨.ref (s.heap.objs.size + 1) :: vs, kw⟩) (PySem.W.InitBack (s.heap.objs.size + 1) R)
      { s with heap := (s.heap.push PySem.W.emptyDict).push (PySem.W.instObj C s.heap.objs.size) }) :
    codeAny (model prog w) A (.call (.ref C) ⟨vs, kw⟩) R s := by
  obtain ⟨hh, g, d, t, os⟩ := s
  exact PySem.W.make_core (PySem.W.makes_of X hm) (PySem.W.looks_findIn X hi) (fun self => PySem.W.bind_fn X self hf) (.inl rfl) h
end
def putF (f : Str) (v : V) : List (Str × V) → List (Str × V)
  | [] => [(f, v)]
  | (g, x) :: r => if g = f then (g, v) :: r else (g, x) :: putF f v r
theorem lookup_putF (f g : Str) (v : V) : ∀ fs : List (Str × V), (putF f v fs).lookup g = if g = f then some v else fs.lookup g
  | [] => by
    show List.lookup g [(f, v)] = _
    by_cases h : g = f
    · have hb : (g == f) = true := beq_iff_eq.mpr h
      simp only [List.lookup, hb, if_pos h]
    · have hb : (g == f) = false := beq_eq_false_iff_ne.mpr h
      simp only [List.lookup, hb, if_neg h]
  | (k, x) :: r => by
    have ih := lookup_putF f g v r
    rw [show putF f v ((k, x) :: r) = (if k = f then (k, v) :: r else (k, x) :: putF f v r) from rfl]
    by_cases hk : k = f
    · rw [if_pos hk]
      by_cases h : g = k
      · have hb : (g == k) = true := beq_iff_eq.mpr h
        simp only [List.lookup, hb, if_pos (h.trans hk)]
      · have hb : (g == k) = false := beq_eq_false_iff_ne.mpr h
        simp only [List.lookup, hb, if_neg (fun e : g = f => h (e.trans hk.symm))]
    · rw [if_neg hk]
      by_cases h : g = k
      · have hb : (g == k) = true := beq_iff_eq.mpr h
        simp only [List.lookup, hb, if_neg (fun e : g = f => hk (h.symm.trans e))]
      · have hb : (g == k) = false := beq_eq_false_iff_ne.mpr h
        simp only [List.lookup, hb]
        exact ih
theorem keys_putF (f : Str) (v : V) : ∀ fs : List (Str × V), f ∈ (putF f v fs).map (·.1) ∧ ∀ g, g ∈ fs.map (·.1) → g ∈ (putF f v fs).map (·.1)
  | [] => ⟨by simp [putF], fun g h => by simp at h⟩
  | (k, x) :: r => by
    obtain ⟨i1, i2⟩ := keys_putF f v r
    rw [show putF f v ((k, x) :: r) = (if k = f then (k, v) :: r else (k, x) :: putF f v r) from rfl]
    by_cases hk : k = f
    · rw [if_pos hk]
      subst hk
      exact ⟨by simp, fun g h => by simpa using h⟩
    · rw [if_neg hk]
      refine ⟨?_, fun g h => ?_⟩
      · rw [List.map_cons]
        exact List.mem_cons_of_mem _ i1
      · rw [List.map_cons] at h ⊢
        rcases List.mem_cons.mp h with e | e
        · exact List.mem_cons.mpr (.inl e)
        · exact List.mem_cons_of_mem _ (i2 g e)
theorem length_putF (f : Str) (v : V) : ∀ fs : List (Str × V), (putF f v fs).length ≤ fs.length + 1
  | [] => by simp [putF]
  | (k, x) :: r => by
    have ih := length_putF f v r
    rw [show putF f v ((k, x) :: r) = (if k = f then (k, v) :: r else (k, x) :: putF f v r) from rfl]
    by_cases hk : k = f
    · rw [if_pos hk, List.length_cons, List.length_cons]; omega
    · rw [if_neg hk, List.length_cons, List.length_cons]; omega
theorem RelO.some_of {v : V} {o : Option Value} (r : RelO (some v) o) : ∃ u, o = some u ∧ RelV v u := by
  cases o with
  | none => exact (show False from r).elim
  | some u => exact ⟨u, rfl, r⟩
theorem RelO.none_of {o : Option Value} (r : RelO none o) : o = none := by
  cases o with
  | none => rfl
  | some u => exact (show False from r).elim
theorem handed_of {v : V} {u : Value} (r : RelV v u) : PySem.W.handedIn u = true := by
  cases v with
  | non => cases (show u = Value.none from r); rfl
  | bl b => cases (show u = Value.bool b from r); rfl
  | int i => obtain ⟨t, e⟩ := (show ∃ t, u = Value.int i t from r); cases e; rfl
  | str x => obtain ⟨t, e⟩ := (show ∃ t, u = Value.str x t from r); cases e; rfl
  | byt b => obtain ⟨t, e⟩ := (show ∃ t, u = Value.bytes b t from r); cases e; rfl
  | flt b => obtain ⟨t, e⟩ := (show ∃ t, u = Value.float b t from r); cases e; rfl
  | ref a => cases (show u = Value.ref a from r); rfl
  | ty n => cases (show u = Value.type n from r); rfl
section
variable {P : Program} {w : World} {H H' : Hp} {h h' : Heap} {a C dx : Addr} {fs fs' : List (Str × V)}
theorem ins_get (hok : HOk P w H h) (e : H a = some (.ins C dx fs)) : ∃ mA, ObjM h a dx C mA ∧ (∀ f, RelO (fs.lookup f) (mA f)) ∧ PySem.Within mA (fs.map (·.1)) ∧ fs.length ≤ 1000 ∧ H dx = some (.own a) := by
  obtain ⟨d, z, ne, ob, mA, n, r, q⟩ := (show ObjOk P w H h a (.ins C dx fs) from hok a _ e)
  exact ⟨mA, ⟨ob, n, ne⟩, r, q, z, d⟩
end
structure Cls (K : PySem.W.Frag) (C : Addr) : Prop where
  pg : PySem.W.plainGet K C Str.empty = true
  hd : PySem.W.hasDictIn K C = true
  po : PySem.W.plainOver K C = true
  sa : PySem.W.findIn K (.ref C) "__setattr__" = some (some (.builtin "object.__setattr__"))
theorem Cls.get {K : PySem.W.Frag} {C : Addr} (c : Cls K C) (f : Str) : PySem.W.plainGet K C f = true := c.pg
def NoAttr (K : PySem.W.Frag) (C : Addr) (f : Str) : Prop := PySem.W.findIn K (.ref C) f = some none
theorem NoAttr.taker {K : PySem.W.Frag} {C : Addr} {f : Str} (n : NoAttr K C f) : PySem.W.takerIn K C f = some none := by
  unfold PySem.W.takerIn
  rw [show PySem.W.findIn K (.ref C) f = some none from n]
  rfl
structure Meth (K : PySem.W.Frag) (C : Addr) (m : Str) (f : Addr) : Prop where
  at_ : PySem.W.findIn K (.ref C) m = some (some (.ref f))
  fn : PySem.W.isFn K (.ref f) = true
  kp : PySem.W.keepIn K (.ref f) = true
section
variable {X : Cx} {pins : List (Addr × Obj)} {σ : St} {H : Hp} {s : Shared} {a C dx : Addr} {fs : List (Str × V)} {f : Str} {v : V} {A : Around} {E : Value → Shared → Prop}
theorem getattr_ok {b : Bool} {Q : Value → Shared → Prop} (I : Inv X pins σ H s) (e : H a = some (.ins C dx fs)) (c : Cls X.K C) (n : NoAttr X.K C f) (l : fs.lookup f = some v)
    (h : ∀ u s', Inv X pins σ H s' → RelV v u → Q u s') : wpAny (model X.prog X.w) A (getAttr (.ref a) f b) Q E s := by
  obtain ⟨mA, O, r, _, _, _⟩ := ins_get I.hok e
  obtain ⟨u, hu, ru⟩ := RelO.some_of (v := v) (o := mA f) (by rw [← l]; exact r f)
  exact get_map I.kIn O (c.get f) c.hd n hu (handed_of ru) (h u _ (I.tok _) ru)
theorem getmeth_ok {m : Str} {g : Addr} {pl : Sem Bool} {Q : Value × List Value → Shared → Prop} (I : Inv X pins σ H s) (e : H a = some (.ins C dx fs)) (c : Cls X.K C) (k : Meth X.K C m g) (l : fs.lookup m = none)
    (h : Q (.ref g, [.ref a]) s) : wpAny (model X.prog X.w) A (getMethod (.ref a) m pl) Q E s := by
  obtain ⟨mA, O, r, _, _, _⟩ := ins_get I.hok e
  have hn : mA m = none := RelO.none_of (by rw [← l]; exact r m)
  exact get_meth I.kIn O (c.get m) k.at_ k.fn hn h
theorem setattr_ok {y : V} {u : Value} {Q : Unit → Shared → Prop} (I : Inv X pins σ H s) (e : H a = some (.ins C dx fs)) (c : Cls X.K C) (n : NoAttr X.K C f) (hl : fs.length < 1000) (ry : RelV y u)
    (h : ∀ s', Inv X pins σ (upd H a (.ins C dx (putF f y fs))) s' → Q () s') : wpAny (model X.prog X.w) A (setAttr (.ref a) f u) Q E s := by
  obtain ⟨mA, O, r, wi, _, ho⟩ := ins_get I.hok e
  have hz : (fs.map (·.1)).length ≤ sizeLine := by rw [List.length_map, sizeLine_eq]; omega
  refine set_map I.kIn O c.sa c.po n.taker c.hd wi hz fun h' O' sb => h _ ?_
  have hd : ∃ o, h'.get? dx = some o := let ⟨o, _, _, e', _⟩ := O'.ns; ⟨o, e'⟩
  refine I.write (x := a) (e := dx) (by rw [e]; exact True.intro) (.inr ho) (fun b q hb z => (sb.2 b hb).trans z) hd ?_
  refine ⟨by rw [upd_ne O.ne]; exact ho, ?_, O.ne, O'.obj, _, O'.ns, fun g => ?_, fun g hg => ?_⟩
  · have := length_putF f y fs; omega
  · show RelO ((putF f y fs).lookup g) (if g = f then some u else mA g)
    rw [lookup_putF]
    by_cases q : g = f
    · rw [if_pos q, if_pos q]; exact ry
    · rw [if_neg q, if_neg q]; exact r g
  · by_cases q : g = f
    · rw [q]; exact (keys_putF f y fs).1
    · refine (keys_putF f y fs).2 g (wi g fun z => hg ?_)
      show (if g = f then some u else mA g) = none
      rw [if_neg q]; exact z
theorem Inv.made (I : Inv X pins σ H s) : Inv X pins σ (upd (upd H s.heap.objs.size (.own (s.heap.objs.size + 1))) (s.heap.objs.size + 1) (.ins C s.heap.objs.size []))
    { s with heap := (s.heap.push PySem.W.emptyDict).push (PySem.W.instObj C s.heap.objs.size) } := by
  have e1 : (s.heap.push PySem.W.emptyDict).get? s.heap.objs.size = some PySem.W.emptyDict := Heap.get?_push_size s.heap rfl
  have e2 : ((s.heap.push PySem.W.emptyDict).push (PySem.W.instObj C s.heap.objs.size)).get? (s.heap.objs.size + 1) = some (PySem.W.instObj C s.heap.objs.size) := by
    have := Heap.get?_push_size (s.heap.push PySem.W.emptyDict) (o := PySem.W.instObj C s.heap.objs.size) rfl
    rwa [Heap.size_push] at this
  have e3 : (s.heap.push PySem.W.emptyDict).Ns s.heap.objs.size (fun _ => none) := ⟨PySem.W.emptyDict, #[], _, e1, rfl, (fun e he => absurd he (by simp)), fun _ => rfl⟩
  have I1 := I.laid (a := s.heap.objs.size) (o := .own (s.heap.objs.size + 1)) (h' := s.heap.push PySem.W.emptyDict) (t' := s.toks) (fun b u q => Heap.get?_push_of_some _ q) (Nat.le_refl _) ⟨_, e1⟩
  refine I1.laid (a := s.heap.objs.size + 1) (o := .ins C s.heap.objs.size []) (t' := s.toks) (fun b u q => Heap.get?_push_of_some _ q) (Nat.le_of_eq (Heap.size_push _ _)) ?_
  have ne : s.heap.objs.size ≠ s.heap.objs.size + 1 := Nat.ne_of_lt (Nat.lt_succ_self _)
  refine ⟨by rw [upd_ne ne, upd_same], Nat.zero_le _, ne, e2, fun _ => none, (Heap.Ns1.of_empty e3).at fun o q => Heap.get?_push_of_some _ q, fun _ => True.intro, fun y hy => absurd rfl hy⟩
theorem attr_of {prog : Program} {w : World} {env : Env} {e : Expr} {f : Str} {pos : Pos} {s : Shared} {Q : Value → Shared → Prop} (hb : attributeBase e f env (eval e env) = eval e env)
    (h : wpAny (model prog w) A (eval e env) (fun o s₁ => wpAny (model prog w) A (getAttr o f true) Q E s₁) E s) : wpAny (model prog w) A (eval (.Attribute e f pos) env) Q E s :=
  Attribute_any_ h (by rw [arm_eval_Attribute, hb])
end
def tFld (K : PySem.W.Frag) (ta : TE) (f : Str) : TE := fun σ H Q => ta σ H fun x H1 => ∃ a C dx fs v, x = .ref a ∧ H1 a = some (.ins C dx fs) ∧ Cls K C ∧ NoAttr K C f ∧ fs.lookup f = some v ∧ Q v H1
def sFld (K : PySem.W.Frag) (ta tv : TE) (f : Str) : TS := fun D σ H => tv σ H fun y H1 => ta σ H1 fun x H2 => ∃ a C dx fs, x = .ref a ∧ H2 a = some (.ins C dx fs) ∧ Cls K C ∧ NoAttr K C f ∧ fs.length < 1000 ∧
  D.nx σ (upd H2 a (.ins C dx (putF f y fs)))
section
variable {X : Cx} {o e value : Expr} {f : Str} {pos pos' tpos : Pos} {ta tv : TE}
theorem pe_fld (he : PE X e ta) (hb : attributeBase e f X.env (eval e X.env) = eval e X.env) : PE X (.Attribute e f pos) (tFld X.K ta f) := by
  intro pins s σ H Q I h
  refine attr_of hb (thn (he pins s σ H _ I h) fun u s1 ⟨x, H1, I1, rx, a, C, dx, fs, v, ex, ea, c, n, l, q⟩ => ?_)
  subst ex
  obtain rfl : u = Value.ref a := rx
  exact getattr_ok I1 ea c n l fun u' s2 I2 ru => ⟨v, H1, I2, ru, q⟩
theorem ps_fld (ha : PE X o ta) (hv : PE X value tv) (hs : swapsWith value (some (.Attribute o f pos')) pos.line X.env = pure false) : PS X (.Assign [.Attribute o f pos'] value pos) (sFld X.K ta tv f) := by
  intro pins s σ H D I h
  refine plainObj_wpAny_Assign_Attribute (thn (hv pins s σ H _ I h) fun u s1 ⟨y, H1, I1, ry, q⟩ => thn (ha pins s1 σ H1 _ I1 q) fun ov s2 ⟨x, H2, I2, rx, a, C, dx, fs, ex, ea, c, n, l, q2⟩ => ?_) hs
  subst ex
  obtain rfl : ov = Value.ref a := rx
  exact setattr_ok I2 ea c n l ry fun s3 I3 => ⟨σ, _, I3, q2⟩
theorem methcall_of {pl : Sem Bool} {m : Str} {apos : Pos} {args : List Expr} {pins : List (Addr × Obj)} {s : Shared} {σ : St} {H : Hp} {Q : Value → Shared → Prop} {te : TE} (he : PE X e te) (I : Inv X pins σ H s)
    (h : te σ H fun x H1 => ∃ a C dx fs g, x = .ref a ∧ H1 a = some (.ins C dx fs) ∧ Cls X.K C ∧ Meth X.K C m g ∧ fs.lookup m = none ∧
      ∀ s1, Inv X pins σ H1 s1 → wpAny (model X.prog X.w) X.A (callWith pos (.ref g) [.ref a] (backTo pos (starEach args X.env)) (backToKw pos (keywordEach [] X.env))) Q X.xe s1)
    (ht : eval (.Call (.Attribute e m apos) args [] pos) X.env = (do
      let ov ← eval e X.env
      standAt apos.atName
      let (f, first) ← holding [ov] (getMethod ov m pl)
      callWith pos f first (backTo pos (starEach args X.env)) (backToKw pos (keywordEach [] X.env)))) :
    wpAny (model X.prog X.w) X.A (eval (.Call (.Attribute e m apos) args [] pos) X.env) Q X.xe s := by
  refine PySem.W.methodCall_KW (pl := pl) (thn (he pins s σ H _ I h) fun u s1 ⟨x, H1, I1, rx, a, C, dx, fs, g, ex, ea, c, k, l, q⟩ => ?_) ht
  subst ex
  obtain rfl : u = Value.ref a := rx
  exact getmeth_ok I1 ea c k l (q s1 I1)
end
section
variable {X : Cx} {pins : List (Addr × Obj)} {σ : St} {H : Hp} {s : Shared} {A : Around} {E : Value → Shared → Prop} {Q : Value → Shared → Prop} {c : Value} {b : Bool}
end
structure Room (k : Nat) (A : Around) : Prop where
  hd : A.handled = none
  dp : A.depth + 3 * k + 5 < recursionLimit
  un : A.units + 16 * k + 200 < cLine
theorem Room.mono {j k : Nat} {A : Around} (r : Room k A) (h : j ≤ k) : Room j A := ⟨r.hd, by have := r.dp; omega, by have := r.un; omega⟩
theorem Room.deeper {k : Nat} {A : Around} (r : Room (k + 1) A) (env : Env) : Room k (A.deeper env) :=
  ⟨r.hd, by have := r.dp; show A.depth + 1 + 3 * k + 5 < _; omega, by have := r.un; show A.units + 3 + 16 * k + 200 < _; omega⟩
theorem make_depth {A : Around} {C : Addr} {us : List Value} {kw : List (Str × Value)} : (A.under (.builtin "type.__call__" ⟨.ref C :: us, kw⟩)).depth = A.depth + 1 := by
  first | rfl | simp [Around.under, Code.weight, Code.isCreation, Code.isGuard, Code.isCaller, Code.frames, Code.isFrame, guardIds]
theorem make_units {A : Around} {C : Addr} {us : List Value} {kw : List (Str × Value)} : (A.under (.builtin "type.__call__" ⟨.ref C :: us, kw⟩)).units = A.units + 1 := by
  first | rfl | simp [Around.under, Code.cUnits, Code.frames, Code.isFrame]
theorem Room.make {k : Nat} {A : Around} (r : Room (k + 1) A) (C : Addr) (us : List Value) (kw : List (Str × Value)) : Room k (A.under (.builtin "type.__call__" ⟨.ref C :: us, kw⟩)) :=
  ⟨r.hd, by have := r.dp; rw [make_depth]; omega, by have := r.un; rw [make_units]; omega⟩
theorem Room.depth {k : Nat} {A : Around} (r : Room k A) : A.depth < recursionLimit := by have := r.dp; omega
theorem Room.units {k : Nat} {A : Around} (r : Room k A) : A.units + 64 < cLine := by have := r.un; omega
def tNil : TA := fun _ H Q => Q [] H
def tCons (ta : TE) (tr : TA) : TA := fun σ H Q => ta σ H fun x H1 => tr σ H1 fun xs H2 => Q (x :: xs) H2
section
variable {X : Cx} {e : Expr} {es : List Expr} {te : TE} {t : TA} {pos : Pos}
theorem pa_nil : PA X [] tNil := fun _ _ _ _ H Q I h => Calls.spliced_nil ⟨[], H, I, .nil, h⟩
theorem pa_cons (ha : PE X e te) (hr : PA X es t) (hs : starEach (e :: es) X.env = (false, eval e X.env) :: starEach es X.env := by rfl) : PA X (e :: es) (tCons te t) := by
  intro pos pins s σ H Q I h
  rw [hs]
  show wpAny _ _ (spliced ((false, eval e X.env) :: backTo pos (starEach es X.env))) _ _ s
  refine Calls.spliced_cons (thn (ha pins s σ H _ I h) fun u s1 ⟨x, H1, I1, r1, q1⟩ => ?_)
  exact thn (hr pos pins s1 σ H1 _ I1 q1) fun us s2 ⟨xs, H2, I2, r2, q2⟩ => ⟨x :: xs, H2, I2, .cons r1 r2, q2⟩
def tTup (t : TA) : TE := fun σ H Q => t σ H fun xs H1 => xs.length ≤ sizeLine ∧ ∀ p, H1 p = none → Q (.ref p) (upd H1 p (.tup xs))
def tLst (t : TA) : TE := fun σ H Q => t σ H fun xs H1 => xs.length ≤ sizeLine ∧ ∀ p, H1 p = none → Q (.ref p) (upd H1 p (.lst xs))
theorem pe_tup {x1} (h : PA X es t) : PE X (.Tuple es x1 pos) (tTup t) := by
  intro pins s σ H Q I hq
  refine wpAny_Tuple_spliced (thn (h pos pins s σ H _ I hq) fun us s1 ⟨xs, H1, I1, r, z, q⟩ => ⟨by rw [← r.length]; exact z, ?_⟩)
  have hf : H1 s1.heap.objs.size = none := I1.hok.fresh (Nat.le_refl _)
  refine ⟨.ref s1.heap.objs.size, upd H1 s1.heap.objs.size (.tup xs), I1.laid (t' := s1.toks) (fun b u e => Heap.get?_push_of_some _ e) (Nat.le_refl _) ?_, rfl, q _ hf⟩
  exact ⟨z, us, r, ⟨_, Heap.get?_push_size _ rfl, rfl, _, rfl⟩⟩
theorem pe_lst (h : PA X es t) : PE X (.List es pos) (tLst t) := by
  intro pins s σ H Q I hq
  refine wpAny_List_spliced (thn (h pos pins s σ H _ I hq) fun us s1 ⟨xs, H1, I1, r, z, q⟩ => ⟨by rw [← r.length]; exact z, ?_⟩)
  have hf : H1 s1.heap.objs.size = none := I1.hok.fresh (Nat.le_refl _)
  refine ⟨.ref s1.heap.objs.size, upd H1 s1.heap.objs.size (.lst xs), I1.laid (t' := s1.toks) (fun b u e => Heap.get?_push_of_some _ e) (Nat.le_refl _) ?_, rfl, q _ hf⟩
  exact ⟨z, us, 0, r, Heap.get?_push_size _ rfl⟩
end
abbrev Sp := List V → Hp → VK → XK → Prop
abbrev CXT := List Env → Hp → Shared → XK → Value → Shared → Prop
structure Env0 (P : Program) (w : World) (K : PySem.W.Frag) (mg : Str → Option Value) (base : Heap) (A : Around) (outer : List Env) (s : Shared) (H : Hp) : Prop where
  frames : A.frames = some outer
  mod : Mod K mg base
  bs : ∀ b o, base.get? b = some o → s.heap.get? b = some o ∧ H b = none
  bsz : base.objs.size ≤ s.heap.objs.size
  funs : s.heap.FunFrames base outer
  frf : ∀ b ∈ frs outer, H b = none
  hok : HOk P w H s.heap
  bare : AllBare s.gens
def CE (outer : List Env) (P : Program) (w : World) (H : Hp) (s : Shared) (Q : VK) (u : Value) (s' : Shared) : Prop :=
  ∃ v H', s'.os = s.os ∧ AllBare s'.gens ∧ Un (frs outer) [] H H' s.heap s'.heap ∧ HOk P w H' s'.heap ∧ RelV v u ∧ Q v H'
def CR (CX : CXT) (outer : List Env) (P : Program) (w : World) (H : Hp) (s : Shared) (Q : VK) (E : XK) (r : Result) (s' : Shared) : Prop :=
  match r with
  | .ok (.ret u) => CE outer P w H s Q u s'
  | .ok _ => False
  | .error e => CX outer H s E e s'
structure FnOk (P : Program) (w : World) (K : PySem.W.Frag) (mg : Str → Option Value) (base : Heap) (CX : CXT) (k : Nat) (f : Addr) (fd : FuncData) (ps : List Str) (sp : Sp) : Prop where
  len : ∀ vs H Q E, sp vs H Q E → vs.length = ps.length
  run : ∀ (A : Around) (outer : List Env) (s : Shared) (H : Hp) (args : Args) (us : List Value) (vs : List V) (Q : VK) (E : XK), Room k A → Env0 P w K mg base A outer s H → BindsTo s fd args (ps.zip us) → Vals vs us → sp vs H Q E →
    codeAny (model P w) A (.call (.ref f) args) (CR CX outer P w H s Q E) s
theorem Env0.make {P : Program} {w : World} {K : PySem.W.Frag} {mg : Str → Option Value} {base : Heap} {A : Around} {outer : List Env} {s : Shared} {H : Hp} (e : Env0 P w K mg base A outer s H) (C : Addr) (us : List Value) (kw : List (Str × Value)) :
    Env0 P w K mg base (A.under (.builtin "type.__call__" ⟨.ref C :: us, kw⟩)) outer s H := ⟨by first | exact e.frames | (simpa [Around.under, Code.envs, Code.isFrame, pushEnvs] using e.frames), e.mod, e.bs, e.bsz, e.funs, e.frf, e.hok, e.bare⟩
section
variable {X : Cx} {pins : List (Addr × Obj)} {σ : St} {H : Hp} {s s' : Shared}
theorem Inv.env0 (I : Inv X pins σ H s) : Env0 X.prog X.w X.K X.mg X.base X.A X.stack s H :=
  ⟨I.ok.frames, I.ok.mod, I.bs, Nat.le_trans I.ok.bsz I.sz, I.stack, I.stkFree, I.hok, I.bare⟩
theorem Inv.after {Q : VK} {u : Value} (I : Inv X pins σ H s) (h : CE X.stack X.prog X.w H s Q u s') : EP X pins σ Q u s' := by
  obtain ⟨v, H', os, bare, un, hok, r, q⟩ := h
  obtain ⟨hh, g, d, t, os'⟩ := s'
  obtain rfl : os' = s.os := os
  exact ⟨v, H', I.call (h' := hh) (g' := g) (d' := d) (t' := t) (ch := []) un hok bare (fun b z => absurd z (by simp)), r, q⟩
end
def tCall (sp : Sp) (dvs : List V) (E : XK) (t : TA) : TE := fun σ H Q => t σ H fun vs H1 => sp (vs ++ dvs) H1 Q E
def tMeth (C : Addr) (m : Str) (sp : Sp) (dvs : List V) (E : XK) (ta : TE) (t : TA) : TE := fun σ H Q => ta σ H fun x H1 => ∃ a dx fs, x = .ref a ∧ H1 a = some (.ins C dx fs) ∧ fs.lookup m = none ∧
  t σ H1 fun vs H2 => sp (x :: (vs ++ dvs)) H2 Q E
def tMake (C : Addr) (sp : Sp) (dvs : List V) (E : XK) (t : TA) : TE := fun σ H Q => t σ H fun vs H1 => ∀ x dx, H1 x = none → H1 dx = none → dx ≠ x →
  sp (.ref x :: (vs ++ dvs)) (upd (upd H1 dx (.own x)) x (.ins C dx [])) (fun v H2 => v = .non ∧ Q (.ref x) H2) E
def Binds (K : PySem.W.Frag) (fd : FuncData) (ps : List Str) (ds : List Value) : Prop :=
  ∀ (s : Shared) (us : List Value), K.In s.heap → (us ++ ds).length = ps.length → BindsTo s fd ⟨us, []⟩ (ps.zip (us ++ ds))
theorem Binds.all {K : PySem.W.Frag} {fd : FuncData} {ps : List Str} (h : ∀ us : List Value, us.length = ps.length → bindArgs fd ⟨us, []⟩ = pure (ps.zip us)) : Binds K fd ps [] := fun s us _ hl => by
  rw [List.append_nil] at hl ⊢
  exact .of_eq (h us hl)
def Passes (CX : CXT) (X : Cx) (E : XK) : Prop := ∀ (pins : List (Addr × Obj)) (σ : St) (H : Hp) (s : Shared) (e : Value) (s' : Shared), Inv X pins σ H s → CX X.stack H s E e s' → X.xe e s'
section
variable {X : Cx} {CX : CXT} {k : Nat} {f C : Addr} {fd : FuncData} {ps : List Str} {sp : Sp} {dvs : List V} {ds : List Value} {E : XK} {x m : Str} {p pos apos : Pos} {e o : Expr} {es : List Expr} {ta : TE} {t : TA}
theorem run_fn {pins : List (Addr × Obj)} {σ : St} {H : Hp} {s : Shared} {Q : VK} {us : List Value} {vs : List V} (F : FnOk X.prog X.w X.K X.mg X.base CX k f fd ps sp) (hr : Room k X.A) (hb : Binds X.K fd ps ds) (hd : Vals dvs ds) (hx : Passes CX X E)
    (I : Inv X pins σ H s) (r : Vals vs us) (h : sp (vs ++ dvs) H Q E) : wpAny (model X.prog X.w) X.A (call (.ref f) us) (EP X pins σ Q) X.xe s := by
  have r2 : Vals (vs ++ dvs) (us ++ ds) := r.append hd
  have hl : (us ++ ds).length = ps.length := by rw [← r2.length]; exact F.len _ _ _ _ h
  refine wpAny_call (codeAny_mono (F.run X.A X.stack s H ⟨us, []⟩ (us ++ ds) (vs ++ dvs) Q E hr I.env0 (hb s us I.kIn hl) r2 h) fun r s' hq => ?_)
  cases r with
  | error e => exact hx pins σ H s e s' I hq
  | ok fl =>
    cases fl with
    | ret u => exact I.after hq
    | next => exact False.elim hq
    | brk => exact False.elim hq
    | cont => exact False.elim hq
theorem pe_call (F : FnOk X.prog X.w X.K X.mg X.base CX k f fd ps sp) (hr : Room k X.A) (hg : Gl X x) (hm : X.mg x = some (.ref f)) (hk : PySem.W.keepIn X.K (.ref f) = true) (hb : Binds X.K fd ps ds) (hd : Vals dvs ds) (hx : Passes CX X E)
    (ha : PA X (e :: es) t) (hdb : (x == ("__debug__" : Str)) = false := by decide) (he : starEach (e :: es) X.env = (false, eval e X.env) :: starEach es X.env := by rfl) (hpl : (backTo pos (starEach es X.env)).any (·.1) = false := by rfl) :
    PE X (.Call (.Name x p) (e :: es) [] pos) (tCall sp dvs E t) := by
  intro pins s σ H Q I h
  refine wpAny_Call_Name_kw (ld_glob I hg hm ?_ hdb)
  refine PySem.W.callWith_K (h₀ := X.base) I.ok.mod.kin hk (thn (ha pos pins s σ H _ I h) fun us s1 ⟨vs, H1, I1, r, q⟩ => ⟨I1.kIn, ?_⟩) he hpl
  exact run_fn F hr hb hd hx I1 r q
theorem pe_call0 (F : FnOk X.prog X.w X.K X.mg X.base CX k f fd ps sp) (hr : Room k X.A) (hg : Gl X x) (hm : X.mg x = some (.ref f)) (hk : PySem.W.keepIn X.K (.ref f) = true) (hb : Binds X.K fd ps ds) (hd : Vals dvs ds) (hx : Passes CX X E)
    (hdb : (x == ("__debug__" : Str)) = false := by decide) : PE X (.Call (.Name x p) [] [] pos) (tCall sp dvs E tNil) := by
  intro pins s σ H Q I h
  refine wpAny_Call_Name_kw (ld_glob I hg hm ?_ hdb)
  exact PySem.W.callWith_K0 I.kIn hk (run_fn (us := []) F hr hb hd hx I .nil h)
theorem pe_meth {pl : Sem Bool} (he : PE X o ta) (c : Cls X.K C) (hm : Meth X.K C m f) (F : FnOk X.prog X.w X.K X.mg X.base CX k f fd ps sp) (hr : Room k X.A) (hb : Binds X.K fd ps ds) (hd : Vals dvs ds) (hx : Passes CX X E) (ha : PA X (e :: es) t)
    (hst : starEach (e :: es) X.env = (false, eval e X.env) :: starEach es X.env := by rfl) (hpl : (backTo pos (starEach es X.env)).any (·.1) = false := by rfl)
    (ht : eval (.Call (.Attribute o m apos) (e :: es) [] pos) X.env = (do
      let ov ← eval o X.env
      standAt apos.atName
      let (f, first) ← holding [ov] (getMethod ov m pl)
      callWith pos f first (backTo pos (starEach (e :: es) X.env)) (backToKw pos (keywordEach [] X.env))) := by rfl) :
    PE X (.Call (.Attribute o m apos) (e :: es) [] pos) (tMeth C m sp dvs E ta t) := by
  intro pins s σ H Q I h
  refine PySem.W.methodCall_KW (pl := pl) (thn (he pins s σ H _ I h) fun u s1 ⟨x, H1, I1, rx, a, dx, fs, ex, ea, l, q⟩ => ?_) ht
  subst ex
  obtain rfl : u = Value.ref a := rx
  refine getmeth_ok I1 ea c hm l ?_
  refine PySem.W.callWith_K (first := [.ref a]) (h₀ := X.base) I.ok.mod.kin hm.kp (thn (ha pos pins s1 σ H1 _ I1 q) fun us s2 ⟨vs, H2, I2, r, q2⟩ => ⟨I2.kIn, ?_⟩) hst hpl
  exact run_fn (us := .ref a :: us) (vs := .ref a :: vs) F hr hb hd hx I2 (.cons rfl r) q2
theorem pe_meth0 {pl : Sem Bool} (he : PE X o ta) (c : Cls X.K C) (hm : Meth X.K C m f) (F : FnOk X.prog X.w X.K X.mg X.base CX k f fd ps sp) (hr : Room k X.A) (hb : Binds X.K fd ps ds) (hd : Vals dvs ds) (hx : Passes CX X E)
    (ht : eval (.Call (.Attribute o m apos) [] [] pos) X.env = (do
      let ov ← eval o X.env
      standAt apos.atName
      let (f, first) ← holding [ov] (getMethod ov m pl)
      callWith pos f first (backTo pos (starEach [] X.env)) (backToKw pos (keywordEach [] X.env))) := by rfl) :
    PE X (.Call (.Attribute o m apos) [] [] pos) (tMeth C m sp dvs E ta tNil) := by
  intro pins s σ H Q I h
  refine PySem.W.methodCall_KW (pl := pl) (thn (he pins s σ H _ I h) fun u s1 ⟨x, H1, I1, rx, a, dx, fs, ex, ea, l, q⟩ => ?_) ht
  subst ex
  obtain rfl : u = Value.ref a := rx
  refine getmeth_ok I1 ea c hm l ?_
  exact PySem.W.callWith_K0 (first := [.ref a]) I1.kIn hm.kp (run_fn (us := [.ref a]) (vs := [.ref a]) F hr hb hd hx I1 (.cons rfl .nil) q)
structure Mk (K : PySem.W.Frag) (C f : Addr) : Prop where
  makes : PySem.W.makesIn K C = true
  init : PySem.W.findIn K (.ref C) "__init__" = some (some (.ref f))
  fn : PySem.W.isFn K (.ref f) = true
  kp : PySem.W.keepIn K (.ref C) = true
theorem run_make {pins : List (Addr × Obj)} {σ : St} {H : Hp} {s : Shared} {Q : VK} {us : List Value} {vs : List V} (M : Mk X.K C f) (F : FnOk X.prog X.w X.K X.mg X.base CX k f fd ps sp) (hr : Room (k + 1) X.A) (hb : Binds X.K fd ps ds) (hd : Vals dvs ds)
    (hx : Passes CX X E) (I : Inv X pins σ H s) (r : Vals vs us)
    (h : ∀ x dx, H x = none → H dx = none → dx ≠ x → sp (.ref x :: (vs ++ dvs)) (upd (upd H dx (.own x)) x (.ins C dx [])) (fun v H2 => v = .non ∧ Q (.ref x) H2) E) :
    wpAny (model X.prog X.w) X.A (call (.ref C) us) (EP X pins σ Q) X.xe s := by
  have hq := h (s.heap.objs.size + 1) s.heap.objs.size (I.hok.fresh (Nat.le_succ _)) (I.hok.fresh (Nat.le_refl _)) (Nat.ne_of_lt (Nat.lt_succ_self _))
  have I2 := Inv.made (C := C) I
  have r2 : Vals (V.ref (s.heap.objs.size + 1) :: (vs ++ dvs)) (Value.ref (s.heap.objs.size + 1) :: (us ++ ds)) := .cons rfl (r.append hd)
  have hl : (Value.ref (s.heap.objs.size + 1) :: us ++ ds).length = ps.length := by
    have e := r2.length
    rw [F.len _ _ _ _ hq] at e
    exact e.symm
  refine wpAny_call (make_map (f := f) I.kIn M.makes M.init (beq_iff_eq.mp M.fn) (codeAny_mono (F.run _ X.stack _ _ ⟨Value.ref (s.heap.objs.size + 1) :: us, []⟩ (Value.ref (s.heap.objs.size + 1) :: (us ++ ds)) _ _ E (hr.make C us [])
    (I2.env0.make C us []) (hb _ (Value.ref (s.heap.objs.size + 1) :: us) I2.kIn hl) r2 hq) fun r s' hq' => ?_))
  cases r with
  | error e => exact hx pins σ _ _ e s' I2 hq'
  | ok fl =>
    cases fl with
    | ret u =>
      obtain ⟨v, H', I3, rv, ev, q3⟩ := I2.after hq'
      subst ev
      exact ⟨rv, ⟨V.ref (s.heap.objs.size + 1), H', I3, rfl, q3⟩⟩
    | next => exact False.elim hq'
    | brk => exact False.elim hq'
    | cont => exact False.elim hq'
theorem pe_make (M : Mk X.K C f) (F : FnOk X.prog X.w X.K X.mg X.base CX k f fd ps sp) (hr : Room (k + 1) X.A) (hg : Gl X x) (hm : X.mg x = some (.ref C)) (hb : Binds X.K fd ps ds) (hd : Vals dvs ds) (hx : Passes CX X E)
    (ha : PA X (e :: es) t) (hdb : (x == ("__debug__" : Str)) = false := by decide) (he : starEach (e :: es) X.env = (false, eval e X.env) :: starEach es X.env := by rfl) (hpl : (backTo pos (starEach es X.env)).any (·.1) = false := by rfl) :
    PE X (.Call (.Name x p) (e :: es) [] pos) (tMake C sp dvs E t) := by
  intro pins s σ H Q I h
  refine wpAny_Call_Name_kw (ld_glob I hg hm ?_ hdb)
  refine PySem.W.callWith_K (h₀ := X.base) I.ok.mod.kin M.kp (thn (ha pos pins s σ H _ I h) fun us s1 ⟨vs, H1, I1, r, q⟩ => ⟨I1.kIn, ?_⟩) he hpl
  exact run_make M F hr hb hd hx I1 r q
theorem pe_make0 (M : Mk X.K C f) (F : FnOk X.prog X.w X.K X.mg X.base CX k f fd ps sp) (hr : Room (k + 1) X.A) (hg : Gl X x) (hm : X.mg x = some (.ref C)) (hb : Binds X.K fd ps ds) (hd : Vals dvs ds) (hx : Passes CX X E)
    (hdb : (x == ("__debug__" : Str)) = false := by decide) : PE X (.Call (.Name x p) [] [] pos) (tMake C sp dvs E tNil) := by
  intro pins s σ H Q I h
  refine wpAny_Call_Name_kw (ld_glob I hg hm ?_ hdb)
  exact PySem.W.callWith_K0 I.kIn M.kp (run_make (us := []) M F hr hb hd hx I .nil h)
end
section
variable {X : Cx} {CX : CXT} {k : Nat} {f C : Addr} {fd : FuncData} {ps ks : List Str} {sp : Sp} {E : XK} {x m : Str} {p pos apos kpos : Pos} {e o : Expr} {es : List Expr} {kws : List Keyword} {te ta : TE} {t tk : TA} {nm : Option Str}
variable {g : List Value → List Value → List Value} {gV : List V → List V → List V}
end
structure FnScope (N P : List Str) (sc : Scope) : Prop where
  kind : sc.kind = .function
  co : sc.isCoroutine = false
  gen : sc.isGenerator = false
  nd : N.Nodup
  pre : N.take P.length = P
  par : ∀ x ∈ P, sc.names.lookup x = some .local ∨ sc.names.lookup x = some .cell
  nofree : ∀ y ∈ sc.names, y.2 ≠ .free
theorem bindL_out {kindOf : Str → Option NameKind} {x : Str} : ∀ {binds : List (Str × Value)} {m : Str → Option Value}, (∀ v, (x, v) ∉ binds) → bindL kindOf binds m x = m x
  | [], _, _ => rfl
  | (n, v) :: r, m, h => by
    unfold bindL
    rw [bindL_out fun w hw => h w (List.mem_cons_of_mem _ hw)]
    split
    · have : x ≠ n := by rintro rfl; exact h v List.mem_cons_self
      simp [this]
    · rfl
theorem bindC_out {kindOf : Str → Option NameKind} {x : Str} : ∀ {binds : List (Str × Value)} {m : Str → Option Value}, (∀ v, (x, v) ∉ binds) → bindC kindOf binds m x = m x
  | [], _, _ => rfl
  | (n, v) :: r, m, h => by
    unfold bindC
    rw [bindC_out fun w hw => h w (List.mem_cons_of_mem _ hw)]
    split
    · rfl
    · have : x ≠ n := by rintro rfl; exact h v List.mem_cons_self
      simp [this]
theorem bindL_get {kindOf : Str → Option NameKind} {x : Str} {v : Value} : ∀ {P : List Str} {vs : List Value} {i : Nat} {m : Str → Option Value}, P.Nodup → P[i]? = some x → vs[i]? = some v → kindOf x = some .local →
    bindL kindOf (P.zip vs) m x = some v
  | [], _, _, _, _, h, _, _ => by simp at h
  | _ :: _, [], _, _, _, _, h, _ => by simp at h
  | p :: P, w :: vs, 0, m, nd, h1, h2, hk => by
    simp at h1 h2; subst h1; subst h2
    show bindL kindOf ((p, w) :: P.zip vs) m p = _
    unfold bindL
    rw [bindL_out fun v hv => (List.nodup_cons.mp nd).1 (List.of_mem_zip hv).1, if_pos hk]
    simp
  | p :: P, w :: vs, i + 1, m, nd, h1, h2, hk => by
    show bindL kindOf ((p, w) :: P.zip vs) m x = _
    unfold bindL
    exact bindL_get (i := i) (List.nodup_cons.mp nd).2 (by simpa using h1) (by simpa using h2) hk
theorem bindC_get {kindOf : Str → Option NameKind} {x : Str} {v : Value} : ∀ {P : List Str} {vs : List Value} {i : Nat} {m : Str → Option Value}, P.Nodup → P[i]? = some x → vs[i]? = some v → kindOf x ≠ some .local →
    bindC kindOf (P.zip vs) m x = some v
  | [], _, _, _, _, h, _, _ => by simp at h
  | _ :: _, [], _, _, _, _, h, _ => by simp at h
  | p :: P, w :: vs, 0, m, nd, h1, h2, hk => by
    simp at h1 h2; subst h1; subst h2
    show bindC kindOf ((p, w) :: P.zip vs) m p = _
    unfold bindC
    rw [bindC_out fun v hv => (List.nodup_cons.mp nd).1 (List.of_mem_zip hv).1, if_neg hk]
    simp
  | p :: P, w :: vs, i + 1, m, nd, h1, h2, hk => by
    show bindC kindOf ((p, w) :: P.zip vs) m x = _
    unfold bindC
    exact bindC_get (i := i) (List.nodup_cons.mp nd).2 (by simpa using h1) (by simpa using h2) hk
def start (N : List Str) (vs : List V) : St := vs.map some ++ List.replicate (N.length - vs.length) none
def cxOf (CX : CXT) (P : Program) (w : World) (K : PySem.W.Frag) (mg : Str → Option Value) (base : Heap) (N : List Str) (qual : Str) (scope : Scope) (f : Addr) (cd : Value) (A : Around) (outer : List Env) (s : Shared) (H : Hp) (E : XK) : Cx where
  prog := P
  w := w
  K := K
  mg := mg
  base := base
  A := A.deeper (envOfC qual scope s.heap.objs.size f cd)
  N := N
  s_0 := s
  H_0 := H
  env := envOfC qual scope s.heap.objs.size f cd
  outer := outer
  stack := envOfC qual scope s.heap.objs.size f cd :: outer
  ex := []
  calm := true
  fn := fun _ => true
  pn := []
  xe := fun e s' => wpAny (model P w) (A.deeper (envOfC qual scope s.heap.objs.size f cd)) (leaving (envOfC qual scope s.heap.objs.size f cd) e) (fun _ s'' => CX outer H s E e s'') (fun e' s'' => CX outer H s E e' s'') s'
theorem cell_has {sc : Scope} {n : Nat} {x : Str} (h : sc.names.lookup x = some .cell) : ∃ c, (cellsFrom n sc.names []).lookup x = some c := by
  have q := PySem.W.cellsFrom_some sc.names n [] (.inl h)
  exact Option.isSome_iff_exists.mp q
theorem inv_start {CX : CXT} {P : Program} {w : World} {K : PySem.W.Frag} {mg : Str → Option Value} {base : Heap} {N ps : List Str} {qual : Str} {scope : Scope} {f : Addr} {cd : Value} {A : Around} {outer : List Env} {s s1 : Shared} {H : Hp} {E : XK} {us : List Value} {vs : List V}
    (S : FnScope N ps scope) (hd : A.handled = none) (e0 : Env0 P w K mg base A outer s H) (hl : vs.length = ps.length) (r : Vals vs us)
    (x : InCallC s s.heap.objs.size (bindL (envOfC qual scope s.heap.objs.size f cd).kindOf (ps.zip us) fun _ => none) (cellsFrom (s.heap.objs.size + 1) scope.names []) (bindC (envOfC qual scope s.heap.objs.size f cd).kindOf (ps.zip us) fun _ => none) s1) :
    Inv (cxOf CX P w K mg base N qual scope f cd A outer s H E) [] (start N vs) H s1 := by
  have hpl : ps.length ≤ N.length := by have := congrArg List.length S.pre; rw [List.length_take] at this; omega
  obtain ⟨h1, tk, rfl, hk⟩ := x.done
  have noA : ∀ b : Addr, b ∉ (cxOf CX P w K mg base N qual scope f cd A outer s H E).ex := fun b z => absurd (show b ∈ ([] : List Addr) from z) (by simp)
  refine ⟨⟨e0.mod, S.kind, rfl, rfl, Nat.le_refl _, fun y z c h1 h2 => ?_, fun y hy => ?_, fun y c _ h => ?_, fun _ => hd, Around.frames_deeper e0.frames, .inr ⟨rfl, rfl⟩, fun b z => absurd z (noA b), e0.bs, e0.bsz, fun b _ _ => noA b, fun b z => absurd z (noA b), e0.funs, e0.frf⟩,
    rfl, e0.bare, Un.kept hk, ⟨_, x.toInCall.ns, fun i y v h1 h2 h3 => ?_⟩, fun y c h => ⟨_, x.cell y c h⟩, e0.hok.fresh (Nat.le_refl _), fun y c h => ?_, fun p hp => absurd (show p ∈ ([] : List (Addr × Obj)) from hp) (by simp), e0.hok.kept hk, ?_⟩
  · exact name_of_addr x.apart (PySem.mem_of_lookup h1) (PySem.mem_of_lookup h2)
  · have hy : scope.names.lookup y = some .cell ∨ scope.names.lookup y = some .free := hy
    rcases hy with hy | hy
    · exact cell_has hy
    · exact absurd rfl (S.nofree _ (PySem.mem_of_lookup hy))
  · exact Nat.le_of_lt (x.above y c (PySem.mem_of_lookup h))
  · have hi : i < vs.length := by
      unfold start at h2
      by_cases hi : i < vs.length
      · exact hi
      · rw [List.getElem?_append_right (by simpa using hi)] at h2
        rw [List.getElem?_replicate] at h2
        split at h2 <;> cases h2
    have ha : vs[i]? = some v := by
      unfold start at h2
      rw [List.getElem?_append_left (by simpa using hi), List.getElem?_map] at h2
      cases e : vs[i]? with
      | none => rw [e] at h2; cases h2
      | some a => rw [e] at h2; cases h2; rfl
    obtain ⟨u, hu, rv⟩ := r.get ha
    have hp : ps[i]? = some y := by
      rw [← S.pre, List.getElem?_take_of_lt (by omega)]; exact h1
    have ndP : ps.Nodup := by rw [← S.pre]; exact S.nd.sublist (List.take_sublist _ _)
    refine ⟨u, rv, ?_⟩
    rcases S.par y (List.mem_of_getElem? hp) with k | k
    · exact .inl ⟨k, bindL_get ndP hp hu k⟩
    · obtain ⟨c, e⟩ := cell_has (n := s.heap.objs.size + 1) k
      refine .inr ⟨.inl k, c, e, ?_⟩
      have q := x.cell y c e
      rw [bindC_get ndP hp hu (by show scope.names.lookup y ≠ _; rw [k]; decide)] at q
      exact q
  · exact e0.hok.fresh (Nat.le_of_lt (x.above y c (PySem.mem_of_lookup h)))
  · unfold start
    show _ = N.length
    rw [List.length_append, List.length_map, List.length_replicate]
    omega
theorem fn_of {CX : CXT} {P : Program} {w : World} {K : PySem.W.Frag} {mg : Str → Option Value} {base : Heap} {k : Nat} {f : Addr} {name qual : Str} {params : Arguments} {body : List Stmt} {scope : Scope} {dV kV doc pm cdv ct oc : Value} {an od : Option Addr}
    {osl : Array (Option Value)} {N ps : List Str} {sp : Sp} (lk : K.lookup f = some ⟨oc, od, .func (PySem.W.fnOf name qual params body scope dV kV doc pm an cdv ct), osl⟩) (hcd : PySem.W.codeIn K cdv qual = true) (S : FnScope N ps scope)
    (len : ∀ vs H Q E, sp vs H Q E → vs.length = ps.length)
    (hbody : ∀ (A : Around) (outer : List Env) (s : Shared) (H : Hp) (vs : List V) (Q : VK) (E : XK), Room k (A.deeper (envOfC qual scope s.heap.objs.size f cdv)) → sp vs H Q E →
      ∃ t, PSs (cxOf CX P w K mg base N qual scope f cdv A outer s H E) body t ∧ t { nx := fun _ H' => Q .non H', rt := Q } (start N vs) H) :
    FnOk P w K mg base CX (k + 1) f (PySem.W.fnOf name qual params body scope dV kV doc pm an cdv ct) ps sp := by
  refine ⟨len, fun A outer s H args us vs Q E hr e0 hb r hsp => ?_⟩
  have hl := len _ _ _ _ hsp
  have KX : K.In s.heap := e0.mod.kin.keeps fun b o e => (e0.bs b o e).1
  have lim : s.heap.NoLimit := e0.mod.nolimit.keeps fun b o e => (e0.bs b o e).1
  have hkind : ∀ y ∈ ps.zip us, scope.names.lookup y.1 = some .local ∨ (scope.names.lookup y.1 = some .cell ∧ ((cellsFrom (s.heap.objs.size + 1) scope.names []).lookup y.1).isSome = true) := fun ⟨n, v⟩ hy => by
    rcases S.par n (List.of_mem_zip hy).1 with q | q
    · exact .inl q
    · exact .inr ⟨q, PySem.W.cellsFrom_some _ _ _ (.inl q)⟩
  refine codeAny_call_function hr.depth (KX _ _ lk) rfl S.co S.gen rfl (PySem.W.codeRec_of KX hcd) (hb _ _ _ _ ?_)
  refine wpAny_newFunctionEnv_cells S.kind hkind fun env he s1 x => ?_
  subst he
  refine ⟨lim.keeps x.toInCall.keep, codeAny_func ?_⟩
  obtain ⟨t, ht, hq⟩ := hbody A outer s H vs Q E (hr.deeper _) hsp
  have I : Inv (cxOf CX P w K mg base N qual scope f cdv A outer s H E) [] (start N vs) H s1 := inv_start S hr.hd e0 hl r x
  refine wpAny_mono (ht [] s1 (start N vs) H _ I hq) (fun fl s' hs => ?_) fun e s' hs => hs
  have fin : ∀ {σ' : St} {H' : Hp} {v : V} {u : Value}, Inv (cxOf CX P w K mg base N qual scope f cdv A outer s H E) [] σ' H' s' → RelV v u → Q v H' → CE outer P w H s Q u s' :=
    fun {σ' H' v u} J rv q => ⟨v, H', J.os, J.bare, J.base, J.hok, rv, q⟩
  cases fl with
  | ret u =>
    obtain ⟨v, σ', H', J, rv, q⟩ := hs
    exact fin J rv q
  | next =>
    obtain ⟨σ', H', J, q⟩ := hs
    exact fin (v := V.non) (u := Value.none) J rfl q
  | brk =>
    obtain ⟨_, _, _, q⟩ := hs
    exact False.elim q
  | cont =>
    obtain ⟨_, _, _, q⟩ := hs
    exact False.elim q
section
variable {X : Cx} {x : Str} {p pos : Pos} {e : Expr} {es : List Expr} {t : TA} {id T : String} {r : List V → Hp → VK → Prop}
def tCB (r : List V → Hp → VK → Prop) (t : TA) : TE := fun σ H Q => t σ H fun vs H1 => r vs H1 Q
theorem pe_callB (hc : CallR X (.builtin id) r) (hg : Gl X x) (hm : X.mg x = none) (hv : bootBuiltins x = some (.builtin id)) (ha : PA X (e :: es) t) (hn : x ≠ "__name__" := by decide) (hdb : (x == ("__debug__" : Str)) = false := by decide)
    (he : starEach (e :: es) X.env = (false, eval e X.env) :: starEach es X.env := by rfl) (hpl : (backTo pos (starEach es X.env)).any (·.1) = false := by rfl) : PE X (.Call (.Name x p) (e :: es) [] pos) (tCB r t) := by
  intro pins s σ H Q I h
  refine wpAny_Call_Name_kw (ld_blt I hg hm hv ?_ hn hdb)
  exact PyProof.Rows.callWith_builtin1 (thn (ha pos pins s σ H _ I h) fun us s1 ⟨vs, H1, I1, r1, q1⟩ => hc pins s1 σ H1 vs us Q I1 r1 q1) he hpl
theorem pe_callTy (hc : CallR X (.type T) r) (hg : Gl X x) (hm : X.mg x = none) (hv : bootBuiltins x = some (.type T)) (ha : PA X (e :: es) t) (hn : x ≠ "__name__" := by decide) (hdb : (x == ("__debug__" : Str)) = false := by decide)
    (he : starEach (e :: es) X.env = (false, eval e X.env) :: starEach es X.env := by rfl) (hpl : (backTo pos (starEach es X.env)).any (·.1) = false := by rfl) : PE X (.Call (.Name x p) (e :: es) [] pos) (tCB r t) := by
  intro pins s σ H Q I h
  refine wpAny_Call_Name_kw (ld_blt I hg hm hv ?_ hn hdb)
  exact PyProof.Rows.callWith_type1 (thn (ha pos pins s σ H _ I h) fun us s1 ⟨vs, H1, I1, r1, q1⟩ => hc pins s1 σ H1 vs us Q I1 r1 q1) he hpl
end
end L2
namespace HT
open PySem PyProof.Rows
section
open PySem.SeqAt
open PySem.AutoSeq1 (wpAny_loadPart')
open PySem.MeetsSeq PySem.MeetsSeq2 PySem.MeetsSeq3
end
section
variable {prog : Program} {w : World} {A : Around} {E : Value → Shared → Prop} {s : Shared}
def sIx (n d : Nat) : Option Int → Nat
  | none => d
  | some v => if v < 0 then (v + (n : Int)).toNat else min v.toNat n
theorem sIx_none (n d : Nat) : sIx n d none = d := rfl
theorem sIx_nat (n d k : Nat) : sIx n d (some (k : Int)) = min k n := by
  show (if (k : Int) < 0 then ((k : Int) + (n : Int)).toNat else min (k : Int).toNat n) = min k n
  rw [if_neg (by omega), Int.toNat_natCast]
end
end HT
namespace L2
open PySem PySem.Spec PyProof.Rows
abbrev TO := St → Hp → (Option Int → Hp → Prop) → Prop
def PO (X : Cx) (e : Option Expr) (t : TO) : Prop :=
  ∀ (pins : List (Addr × Obj)) (s : Shared) (σ : St) (H : Hp) (Q : Option Int → Hp → Prop), Inv X pins σ H s → t σ H Q →
    wpAny (model X.prog X.w) X.A (evalPart e X.env) (fun u s' => ∃ o H', Inv X pins σ H' s' ∧ IsPart u o ∧ Q o H') X.xe s
def tNoPart : TO := fun _ H Q => Q none H
def tPart (t : TE) : TO := fun σ H Q => t σ H fun x H1 => ∃ i, x = .int i ∧ Q (some i) H1
section
variable {X : Cx} {e : Expr} {te : TE} {lo hi : Option Expr} {tl th : TO} {pos p2 : Pos}
theorem po_none : PO X none tNoPart := by
  intro pins s σ H Q I h
  rw [evalPart_none]
  exact wpAny_pure ⟨none, H, I, .none, h⟩
theorem po_some (h : PE X e te) : PO X (some e) (tPart te) := by
  intro pins s σ H Q I hw
  rw [evalPart_some]
  refine thn (h pins s σ H _ I hw) fun u s1 ⟨x, H1, I1, r1, q1⟩ => ?_
  obtain ⟨i, rfl, q⟩ := q1
  obtain ⟨t, rfl⟩ := r1
  exact ⟨some i, H1, I1, .int i t, q⟩
def SlR (X : Cx) (r : V → Option Int → Option Int → Hp → VK → Prop) : Prop :=
  ∀ (pins : List (Addr × Obj)) (s : Shared) (σ : St) (H : Hp) (x : V) (v vl vu : Value) (lo hi : Option Int) (sl : Addr) (Q : VK), Inv X pins σ H s → RelV x v → s.heap.IsSliceOf sl vl vu .none → IsPart vl lo → IsPart vu hi → r x lo hi H Q →
    ∃ T id, typeLookup (.type T) "__getitem__" = pure (some (.builtin id)) ∧ s.TypeIs v T ∧ wpAny (model X.prog X.w) X.A (getItem v (.ref sl)) (EP X pins σ Q) X.xe s
def tSl (r : V → Option Int → Option Int → Hp → VK → Prop) (te : TE) (tl th : TO) : TE := fun σ H Q => te σ H fun x H1 => tl σ H1 fun l H2 => th σ H2 fun u H3 => r x l u H3 Q
theorem pe_slice {r : V → Option Int → Option Int → Hp → VK → Prop} (hr : SlR X r) (he : PE X e te) (hl : PO X lo tl) (hu : PO X hi th) : PE X (.Subscript e (.Slice lo hi none p2) pos) (tSl r te tl th) := by
  intro pins s σ H Q I h
  refine Subscript_ (thn (he pins s σ H _ I h) fun v s1 ⟨x, H1, I1, r1, q1⟩ => ?_)
  refine wpAny_Slice (thn (hl pins s1 σ H1 _ I1 q1) fun vl s2 ⟨l, H2, I2, pl, q2⟩ => thn (hu pins s2 σ H2 _ I2 q2) fun vu s3 ⟨u, H3, I3, pu, q3⟩ => ?_)
  rw [evalPart_none]
  refine wpAny_pure ?_
  have I4 : Inv X pins σ H3 { s3 with heap := s3.heap.push { cls := .type "slice", data := .fields #[vl, vu, .none] } } := I3.kept (t' := s3.toks) fun b ob q => Heap.get?_push_of_some _ q
  obtain ⟨T, id, hT, ht, hg⟩ := hr pins { s3 with heap := s3.heap.push { cls := .type "slice", data := .fields #[vl, vu, .none] } } σ H3 x v vl vu l u s3.heap.objs.size Q I4 r1 (Heap.IsSliceOf.new ..) pl pu q3
  show wpAny (model X.prog X.w) X.A (subscriptTail e (.Slice lo hi none p2) v (.ref s3.heap.objs.size)) (EP X pins σ Q) X.xe { s3 with heap := s3.heap.push { cls := .type "slice", data := .fields #[vl, vu, .none] } }
  exact tail_any (ops := [.ref s3.heap.objs.size, v]) ht hT hg (by with_unfolding_all rfl)
def cutV (xs : List V) (lo hi : Option Int) : List V := (xs.drop (HT.sIx xs.length 0 lo)).take (HT.sIx xs.length xs.length hi - HT.sIx xs.length 0 lo)
theorem cutV_length (xs : List V) (lo hi : Option Int) : (cutV xs lo hi).length ≤ xs.length := by
  unfold cutV
  rw [List.length_take, List.length_drop]
  omega
end
def ixN (n : Nat) (i : Int) : Option Nat := if 0 ≤ i then (if i < n then some i.toNat else none) else if -(n : Int) ≤ i then some (i + n).toNat else none
def atI {α : Type} (xs : List α) (i : Int) : Option α := (ixN xs.length i).bind fun j => xs[j]?
theorem ixN_seq {n : Nat} {i : Int} {j : Nat} (h : ixN n i = some j) : seqIndex? i n = some j ∧ j < n ∧ -(n : Int) ≤ i ∧ i < n := by
  unfold ixN at h
  by_cases h0 : 0 ≤ i
  · rw [if_pos h0] at h
    by_cases h1 : i < n
    · rw [if_pos h1] at h
      have e : i.toNat = j := Option.some.inj h
      exact ⟨by rw [seqIndex_of h0 h1, e], by omega, by omega, h1⟩
    · rw [if_neg h1] at h; cases h
  · rw [if_neg h0] at h
    by_cases h1 : -(n : Int) ≤ i
    · rw [if_pos h1] at h
      have e : (i + n).toNat = j := Option.some.inj h
      exact ⟨by rw [seqIndex_neg (by omega) h1, e], by omega, h1, by omega⟩
    · rw [if_neg h1] at h; cases h
theorem atI_get {α : Type} {xs : List α} {i : Int} {v : α} (h : atI xs i = some v) : ∃ j, seqIndex? i xs.length = some j ∧ xs[j]? = some v ∧ j < xs.length ∧ -(xs.length : Int) ≤ i ∧ i < xs.length := by
  unfold atI at h
  cases e : ixN xs.length i with
  | none => rw [e] at h; cases h
  | some j =>
    rw [e] at h
    obtain ⟨h1, h2, h3, h4⟩ := ixN_seq e
    exact ⟨j, h1, h, h2, h3, h4⟩
theorem atI_nat {α : Type} {xs : List α} {j : Nat} {v : α} (h : xs[j]? = some v) : atI xs (j : Int) = some v := by
  have hj : j < xs.length := (List.getElem?_eq_some_iff.mp h).1
  have e : ixN xs.length (j : Int) = some j := by
    unfold ixN
    rw [if_pos (by omega), if_pos (by omega)]; simp
  unfold atI; rw [e]; exact h
def PlainIx (b : Expr) : Prop := ∀ o i, subscripted b false o i = operate [o, i] (getItem o i)
def IxR (X : Cx) (r : R2) : Prop :=
  ∀ (value slice : Expr) (pins : List (Addr × Obj)) (s : Shared) (σ : St) (H : Hp) (x y : V) (v u : Value) (Q : VK), Inv X pins σ H s → RelV x v → RelV y u → r x y H Q →
    subscripted slice false v u = operate [v, u] (getItem v u) → wpAny (model X.prog X.w) X.A (subscriptTail value slice v u) (EP X pins σ Q) X.xe s
def MtR (X : Cx) (id : String) (r : V → List V → Hp → VK → Prop) : Prop :=
  ∀ (pins : List (Addr × Obj)) (s : Shared) (σ : St) (H : Hp) (x : V) (xs : List V) (v : Value) (us : List Value) (Q : VK), Inv X pins σ H s → RelV x v → Vals xs us → r x xs H Q →
    wpAny (model X.prog X.w) X.A (call (.builtin id) (v :: us)) (EP X pins σ Q) X.xe s
section
variable {X : Cx} {a b : Expr} {ta tb : TE} {pos : Pos}
theorem pe_ix {r : R2} (hr : IxR X r) (ha : PE X a ta) (hb : PE X b tb) (hs : PlainIx b) : PE X (.Subscript a b pos) (tOp r ta tb) := by
  intro pins s σ H Q I h
  exact Subscript_ (binT ha hb I h fun v u s2 x y H2 I2 rx ry q => hr a b pins s2 σ H2 x y v u Q I2 rx ry q (hs _ _))
def rIxL (K : PySem.W.Frag) : R2 := fun x y H Q => ∃ p xs i v, x = .ref p ∧ y = .int i ∧ SqL K H p xs ∧ atI xs i = some v ∧ Q v H
def rIxT (K : PySem.W.Frag) : R2 := fun x y H Q => ∃ p xs i v, x = .ref p ∧ y = .int i ∧ SqT K H p xs ∧ atI xs i = some v ∧ Q v H
theorem ix_list : IxR X (rIxL X.K) := by
  intro value slice pins s σ H x y v u Q I rx ry h hs
  obtain ⟨p, xs, i, z, rfl, rfl, hq, he, q⟩ := h
  cases rx
  obtain ⟨t, rfl⟩ := ry
  obtain ⟨its, r, pl, hz⟩ := I.list hq
  obtain ⟨j, h1, h2, h3, h4, h5⟩ := atI_get he
  obtain ⟨w, ew, rw'⟩ := r.get h2
  have hl := r.length
  have hn := line63
  have fin : EP X pins σ Q w s := ⟨z, H, I, rw', q⟩
  by_cases h0 : 0 ≤ i
  · have hj : i.toNat = j := by
      rw [seqIndex_of h0 h5] at h1
      exact Option.some.inj h1
    exact item_listR pl.isList h0 (by omega) (by rw [hj]; simpa using ew) fin hs
  · have hj : (i + (its.toArray.size : Int)).toNat = j := by
      rw [seqIndex_neg (by omega) h4] at h1
      rw [List.size_toArray, ← hl]
      exact Option.some.inj h1
    exact subscriptTail_builtinR (x := w) pl.isList.typeIs slot_list_getitem.lookup
      (wpAny_getItem_list_neg (Q := fun r s' => r = w ∧ EP X pins σ Q r s') pl.isList (by omega) (by rw [List.size_toArray] <;> omega) (by omega) (by rw [hj]; simpa using ew) ⟨rfl, fin⟩) hs
theorem ix_tup : IxR X (rIxT X.K) := by
  intro value slice pins s σ H x y v u Q I rx ry h hs
  obtain ⟨p, xs, i, z, rfl, rfl, hq, he, q⟩ := h
  cases rx
  obtain ⟨t, rfl⟩ := ry
  obtain ⟨its, r, pl, hz⟩ := I.tuple hq
  obtain ⟨j, h1, h2, h3, h4, h5⟩ := atI_get he
  obtain ⟨w, ew, rw'⟩ := r.get h2
  have hl := r.length
  have hn := line63
  have fin : EP X pins σ Q w s := ⟨z, H, I, rw', q⟩
  exact subscriptTail_builtinR (x := w) pl.typeIs slot_tuple_getitem.lookup
    (getItem_tuple (j := j) (Q := fun r s' => r = w ∧ EP X pins σ Q r s') pl (by omega) (by omega) (by rw [List.size_toArray, ← hl]; exact h1) (by simpa using ew) ⟨rfl, fin⟩) hs
theorem mapSeq_set (its : List Value) (n j : Nat) (u : Value) : Obj.mapSeq (·.setIfInBounds j u) { cls := .type "list", data := .seq its.toArray n } = { cls := .type "list", data := .seq (its.set j u).toArray n } := by
  simp [Obj.mapSeq]
theorem Inv.lst {pins : List (Addr × Obj)} {σ : St} {H : Hp} {s : Shared} {p : Addr} {xs : List V} (I : Inv X pins σ H s) (h : H p = some (.lst xs)) :
    ∃ (its : List Value) (n : Nat), Vals xs its ∧ s.heap.get? p = some { cls := .type "list", data := .seq its.toArray n } ∧ xs.length ≤ sizeLine := by
  obtain ⟨z, its, n, r, e⟩ := I.hok p _ h
  exact ⟨its, n, r, e, z⟩
theorem Inv.lstUpd {pins : List (Addr × Obj)} {σ : St} {H : Hp} {s : Shared} {p : Addr} {xs ys : List V} {its its' : List Value} {n n' : Nat} {f : Obj → Obj} (I : Inv X pins σ H s) (h : H p = some (.lst xs))
    (ho : s.heap.get? p = some { cls := .type "list", data := .seq its.toArray n }) (hf : f { cls := .type "list", data := .seq its.toArray n } = { cls := .type "list", data := .seq its'.toArray n' }) (r : Vals ys its') (hz : ys.length ≤ sizeLine) (t : Nat) :
    Inv X pins σ (upd H p (.lst ys)) { s with heap := s.heap.update p f, toks := t } := by
  have e : (s.heap.update p f).get? p = some { cls := .type "list", data := .seq its'.toArray n' } := by
    rw [Heap.get?_update_self f ho (by rw [hf] <;> rfl), hf]
  refine I.write (x := p) (e := p) (by rw [h]; trivial) (.inl rfl) (fun b u hb q => (Heap.get?_update_other _ _ (Ne.symm hb)).trans q) ⟨_, e⟩ ?_
  exact ⟨hz, its', n', r, e⟩
def rSetL : V → V → V → Hp → (Hp → Prop) → Prop := fun o i v H Q => ∃ p xs k j, o = .ref p ∧ i = .int k ∧ H p = some (.lst xs) ∧ ixN xs.length k = some j ∧ Q (upd H p (.lst (xs.set j v)))
theorem set_list : PSet X rSetL := by
  intro pins s σ H o i v ov iv u Q I ro ri rv h
  obtain ⟨p, xs, k, j, rfl, rfl, hp, hj, q⟩ := h
  cases ro
  obtain ⟨t, rfl⟩ := ri
  obtain ⟨its, n, r, ho, hz⟩ := I.lst hp
  obtain ⟨h1, h2, h3, h4⟩ := ixN_seq hj
  have hl := r.length
  have hn := line63
  have I' : Inv X pins σ (upd H p (.lst (xs.set j v))) { s with heap := s.heap.update p (Obj.mapSeq (·.setIfInBounds j u)) } :=
    I.lstUpd hp ho (mapSeq_set its n j u) (r.set rv j) (by rw [List.length_set]; exact hz) s.toks
  by_cases h0 : 0 ≤ k
  · have hk : k.toNat = j := by
      rw [seqIndex_of h0 h4] at h1
      exact Option.some.inj h1
    exact PySem.W.ki_setAt ho h0 (by omega) (by rw [List.size_toArray, ← hl]; exact h4) (by rw [hk]; exact ⟨_, I', q⟩)
  · have hk : (k + (its.toArray.size : Int)).toNat = j := by
      rw [seqIndex_neg (by omega) h3] at h1
      rw [List.size_toArray, ← hl]
      exact Option.some.inj h1
    exact PySem.W.ki_setBack ho (by omega) (by rw [List.size_toArray, ← hl]; exact h3) (by omega) (by rw [hk]; exact ⟨_, I', q⟩)
theorem slice_bounds (lo hi : Option Int) (n : Nat) : (sliceBounds lo hi none n).1 = ((HT.sIx n 0 lo : Nat) : Int) ∧ (sliceBounds lo hi none n).2.1 = ((HT.sIx n n hi : Nat) : Int) ∧ (sliceBounds lo hi none n).2.2 = 1 := by
  refine ⟨?_, ?_, rfl⟩
  · cases lo with
    | none => simp [sliceBounds, HT.sIx]
    | some i =>
      simp only [sliceBounds, HT.sIx, Option.getD_none, show (1 : Int) > 0 by decide, if_true]
      by_cases h : i < 0
      · simp only [h, if_true] <;> omega
      · simp only [h, if_false] <;> omega
  · cases hi with
    | none => simp [sliceBounds, HT.sIx]
    | some i =>
      simp only [sliceBounds, HT.sIx, Option.getD_none, show (1 : Int) > 0 by decide, if_true]
      by_cases h : i < 0
      · simp only [h, if_true] <;> omega
      · simp only [h, if_false] <;> omega
theorem slicePick_cut (its : List Value) (lo hi : Option Int) : slicePick its.toArray lo hi none = ((its.drop (HT.sIx its.length 0 lo)).take (HT.sIx its.length its.length hi - HT.sIx its.length 0 lo)).toArray := by
  obtain ⟨h1, h2, h3⟩ := slice_bounds lo hi its.toArray.size
  unfold slicePick
  rw [h1, h2, h3]
  simp only [sliceRange_one, pick_run, List.size_toArray] <;> rfl
def rSlL (K : PySem.W.Frag) : V → Option Int → Option Int → Hp → VK → Prop := fun x lo hi H Q => ∃ a xs, x = .ref a ∧ SqL K H a xs ∧ ∀ p, H p = none → Q (.ref p) (upd H p (.lst (cutV xs lo hi)))
theorem sl_list : SlR X (rSlL X.K) := by
  intro pins s σ H x v vl vu lo hi sl Q I rx hs pl pu h
  obtain ⟨a, xs, rfl, hx, q⟩ := h
  cases rx
  obtain ⟨its, r, ht, hz⟩ := I.list hx
  have hlen := r.length
  refine ⟨"list", _, slot_list_getitem.lookup, ht.isList.typeIs, ?_⟩
  refine wpAny_getItem_list_slice ht.isList hs pl pu .none (by simp) ?_ (by rw [List.size_toArray] <;> omega)
  rw [slicePick_cut, ← hlen]
  refine ⟨.ref s.heap.objs.size, _, I.laid (t' := s.toks) (o := .lst (cutV xs lo hi)) (fun b ob q => Heap.get?_push_of_some _ q) (Nat.le_refl _) ?_, rfl, q _ (I.hok.fresh (Nat.le_refl _))⟩
  exact ⟨Nat.le_trans (cutV_length xs lo hi) hz, _, 0, (r.drop (HT.sIx xs.length 0 lo)).take (HT.sIx xs.length xs.length hi - HT.sIx xs.length 0 lo), Heap.get?_push_size _ rfl⟩
def flatV : V → Bool
  | .non => true
  | .bl _ => true
  | .int _ => true
  | .str _ => true
  | _ => false
def eqV : V → V → Bool
  | .non, .non => true
  | .bl a, .bl b => a == b
  | .bl a, .int b => (if a then 1 else 0) == b
  | .int a, .bl b => a == (if b then 1 else 0)
  | .int a, .int b => a == b
  | .str a, .str b => a == b
  | _, _ => false
theorem eqAt_V {A : Around} {s : Shared} {y x : V} {u v : Value} (ry : RelV y u) (rx : RelV x v) (fy : flatV y = true) (fx : flatV x = true) : SeqAt.EqAt A s u v (eqV y x) := by
  cases y with
  | non =>
    cases ry
    cases x with
    | non => cases rx; exact SeqAt.EqAt.same _
    | bl b => cases rx; exact SeqAt.EqAt.none_bool b
    | int b => obtain ⟨t, rfl⟩ := rx; exact SeqAt.EqAt.none_int b t
    | str b => obtain ⟨t, rfl⟩ := rx; exact SeqAt.EqAt.none_str b t
    | _ => exact absurd (show false = true from fx) Bool.false_ne_true
  | bl a =>
    cases ry
    cases x with
    | non => cases rx; exact SeqAt.EqAt.bool_none a
    | bl b => cases rx; exact SeqAt.EqAt.bool_bool a b
    | int b => obtain ⟨t, rfl⟩ := rx; exact SeqAt.EqAt.bool_int a b t
    | str b => obtain ⟨t, rfl⟩ := rx; exact SeqAt.EqAt.bool_str a b t
    | _ => exact absurd (show false = true from fx) Bool.false_ne_true
  | int a =>
    obtain ⟨t', rfl⟩ := ry
    cases x with
    | non => cases rx; exact SeqAt.EqAt.int_none a t'
    | bl b => cases rx; exact SeqAt.EqAt.int_bool a t' b
    | int b => obtain ⟨t, rfl⟩ := rx; exact SeqAt.EqAt.int_int a t' b t
    | str b => obtain ⟨t, rfl⟩ := rx; exact SeqAt.EqAt.int_str a t' b t
    | _ => exact absurd (show false = true from fx) Bool.false_ne_true
  | str a =>
    obtain ⟨t', rfl⟩ := ry
    cases x with
    | non => cases rx; exact SeqAt.EqAt.str_none a t'
    | bl b => cases rx; exact SeqAt.EqAt.str_bool a t' b
    | int b => obtain ⟨t, rfl⟩ := rx; exact SeqAt.EqAt.str_int a t' b t
    | str b => obtain ⟨t, rfl⟩ := rx; exact SeqAt.EqAt.str_str a t' b t
    | _ => exact absurd (show false = true from fx) Bool.false_ne_true
  | _ => exact absurd (show false = true from fy) Bool.false_ne_true
def eqU (x : V) (u : Value) : Bool := match u with
  | .none => eqV .non x
  | .bool b => eqV (.bl b) x
  | .int i _ => eqV (.int i) x
  | .str z _ => eqV (.str z) x
  | _ => false
theorem eqU_of {x y : V} {u : Value} (r : RelV y u) (f : flatV y = true) : eqU x u = eqV y x := by
  cases y with
  | non => cases r; rfl
  | bl b => cases r; rfl
  | int i => obtain ⟨t, rfl⟩ := r; rfl
  | str z => obtain ⟨t, rfl⟩ := r; rfl
  | _ => exact absurd (show false = true from f) Bool.false_ne_true
theorem any_eqU {x : V} : ∀ {xs : List V} {us : List Value}, Vals xs us → xs.all flatV = true → us.any (eqU x) = xs.any fun y => eqV y x
  | _, _, .nil, _ => rfl
  | y :: xs, u :: us, .cons r t, f => by
    rw [List.all_cons, Bool.and_eq_true] at f
    rw [List.any_cons, List.any_cons, eqU_of r f.1, any_eqU t f.2]
theorem mem_eqAt {A : Around} {s : Shared} {x : V} {v : Value} (rx : RelV x v) (fx : flatV x = true) : ∀ {xs : List V} {us : List Value}, Vals xs us → xs.all flatV = true → ∀ u ∈ us, SeqAt.EqAt A s u v (eqU x u)
  | _, _, .nil, _ => fun u hu => by cases hu
  | y :: xs, u :: us, .cons r t, f => fun u' hu => by
    rw [List.all_cons, Bool.and_eq_true] at f
    rcases List.mem_cons.mp hu with rfl | hu
    · rw [eqU_of r f.1]; exact eqAt_V r rx f.1 fx
    · exact mem_eqAt rx fx t f.2 u' hu
def inV (x : V) (xs : List V) : Bool := xs.any fun y => eqV y x
def rIn (K : PySem.W.Frag) (neg : Bool) : R2 := fun x y H Q => ∃ p xs, y = .ref p ∧ (SqL K H p xs ∨ SqT K H p xs) ∧ flatV x = true ∧ xs.all flatV = true ∧ Q (.bl (if neg then !inV x xs else inV x xs)) H
theorem op_notIn_seq : OpR X (compareOp .NotIn) (rIn X.K true) := by
  intro pins s σ H x y v u Q I rx ry h
  obtain ⟨p, xs, rfl, hq, fx, fs, q⟩ := h
  cases ry
  rcases hq with hq | hq
  · obtain ⟨its, r, pl, hz⟩ := I.list hq
    refine SeqAt.notIn_listAt (eqU x) pl.isList (fun w hw => mem_eqAt rx fx r fs w (by simpa using hw)) ⟨.bl _, H, I, rfl, ?_⟩
    rw [show its.toArray.any (eqU x) = its.any (eqU x) by simp, any_eqU r fs]
    exact q
  · obtain ⟨its, r, pl, hz⟩ := I.tuple hq
    refine SeqAt.notIn_tupleAt (eqU x) pl (fun w hw => mem_eqAt rx fx r fs w (by simpa using hw)) ⟨.bl _, H, I, rfl, ?_⟩
    rw [show its.toArray.any (eqU x) = its.any (eqU x) by simp, any_eqU r fs]
    exact q
theorem call_len_seq : CallR X (.builtin "len") (fun xs H Q => ∃ p ys, xs = [.ref p] ∧ (SqL X.K H p ys ∨ SqT X.K H p ys) ∧ Q (.int ys.length) H) := by
  intro pins s σ H xs us Q I r h
  obtain ⟨p, ys, rfl, hq, q⟩ := h
  obtain ⟨u, rfl, rx⟩ := vals1 r
  cases rx
  have hn := line63
  rcases hq with hq | hq
  · obtain ⟨its, r', pl, hz⟩ := I.list hq
    have hlen := r'.length
    exact Calls.call_len_list pl.isList (by simp only [List.size_toArray] <;> omega) ⟨.int ys.length, H, I.tok _, ⟨s.toks + 1, by rw [List.size_toArray, hlen]⟩, q⟩
  · obtain ⟨its, r', pl, hz⟩ := I.tuple hq
    have hlen := r'.length
    exact len_tuple pl (by simp only [List.size_toArray] <;> omega) ⟨.int ys.length, H, I.tok _, ⟨s.toks + 1, by rw [List.size_toArray, hlen]⟩, q⟩
theorem call_list_of : CallR X (.type "list") (fun xs H Q => ∃ p ys, xs = [.ref p] ∧ (SqL X.K H p ys ∨ SqT X.K H p ys) ∧ ∀ l, H l = none → Q (.ref l) (upd H l (.lst ys))) := by
  intro pins s σ H xs us Q I r h
  obtain ⟨p, ys, rfl, hq, q⟩ := h
  obtain ⟨u, rfl, rx⟩ := vals1 r
  cases rx
  have fin : ∀ (its : List Value), Vals ys its → ys.length ≤ sizeLine → ∀ (h' : Heap) (c' : Nat), (∀ b o', s.heap.get? b = some o' → h'.get? b = some o') →
      h'.get? s.heap.objs.size = some { cls := .type "list", dict := none, data := .seq its.toArray c', slots := #[] } → EP X pins σ Q (.ref s.heap.objs.size) { s with heap := h' } := fun its r' hz h' c' kp e =>
    ⟨.ref s.heap.objs.size, _, I.laid (t' := s.toks) kp (Nat.le_refl _) (show ObjOk X.prog X.w _ h' _ (.lst ys) from ⟨hz, its, c', r', e⟩), rfl, q _ (I.hok.fresh (Nat.le_refl _))⟩
  rcases hq with hq | hq
  · obtain ⟨its, r', pl, hz⟩ := I.list hq
    have hlen := r'.length
    obtain ⟨o, ho, hc, n, hd⟩ := pl.isList
    exact call_list_seq p (.inl rfl) ho hc hd (fun h' c' kp e => fin its r' hz h' c' kp e) (by simp only [List.size_toArray] <;> omega)
  · obtain ⟨its, r', pl, hz⟩ := I.tuple hq
    have hlen := r'.length
    obtain ⟨o, ho, hc, n, hd⟩ := pl
    exact call_list_seq p (.inr rfl) ho hc hd (fun h' c' kp e => fin its r' hz h' c' kp e) (by simp only [List.size_toArray] <;> omega)
def tyV (K : PySem.W.Frag) (T : String) (x : V) (H : Hp) : Prop := match x with
  | .str _ => T = "str"
  | .int _ => T = "int"
  | .ref p => (T = "list" ∧ ∃ xs, SqL K H p xs) ∨ (T = "tuple" ∧ ∃ o, K.lookup p = some o ∧ o.cls = .type "tuple" ∧ o.dict = none) ∨
      (T = "dict" ∧ ((∃ kvs, H p = some (.dK kvs)) ∨ ∃ kvs, H p = some (.dT kvs))) ∨ (T = "set" ∧ ∃ S n, H p = some (.set S n))
  | _ => False
theorem tyV_is {pins : List (Addr × Obj)} {σ : St} {H : Hp} {s : Shared} {T : String} {x : V} {v : Value} (I : Inv X pins σ H s) (r : RelV x v) (ty : tyV X.K T x H) :
    s.TypeIs v T ∧ ∀ a, v = .ref a → ∃ ob, s.heap.get? a = some ob ∧ ob.dict = none := by
  cases x with
  | str z =>
    obtain ⟨t, rfl⟩ := r
    cases (show T = "str" from ty)
    exact ⟨typeIs_str s z t, fun _ e => nomatch e⟩
  | int i =>
    obtain ⟨t, rfl⟩ := r
    cases (show T = "int" from ty)
    exact ⟨typeIs_int s i t, fun _ e => nomatch e⟩
  | ref p =>
    cases r
    rcases ty with ⟨rfl, xs, hq⟩ | ⟨rfl, o, hk, hc, hd⟩ | ⟨rfl, hk⟩ | ⟨rfl, S, n, hk⟩
    · obtain ⟨its, _, pl, _⟩ := I.list hq
      refine ⟨pl.isList.typeIs, fun a e => ?_⟩
      cases e
      obtain ⟨o, n, e, c, hd, _⟩ := pl
      exact ⟨o, e, hd⟩
    · refine ⟨⟨o, I.kIn p o hk, hc⟩, fun a e => ?_⟩
      cases e
      exact ⟨o, I.kIn _ o hk, hd⟩
    · have z : ∃ o, s.heap.get? p = some o ∧ o.ExactDict := by
        rcases hk with ⟨kvs, hk⟩ | ⟨kvs, hk⟩
        · obtain ⟨_, _, _, _, o, _, _, e, ex, _⟩ := I.hok p _ hk
          exact ⟨o, e, ex⟩
        · obtain ⟨_, _, _, _, o, _, _, e, ex, _⟩ := I.hok p _ hk
          exact ⟨o, e, ex⟩
      obtain ⟨o, e, ex⟩ := z
      refine ⟨⟨o, e, ex.1⟩, fun a e2 => ?_⟩
      cases e2
      exact ⟨o, e, ex.2.1⟩
    · obtain ⟨o, _, _, _, e, ex, _⟩ := I.hok p _ hk
      refine ⟨⟨o, e, ex.1⟩, fun a e2 => ?_⟩
      cases e2
      exact ⟨o, e, ex.2.1⟩
  | _ => exact False.elim ty
def tBM (K : PySem.W.Frag) (T : String) (r : V → List V → Hp → VK → Prop) (to : TE) (t : TA) : TE := fun σ H Q => to σ H fun x H1 => tyV K T x H1 ∧ t σ H1 fun xs H2 => r x xs H2 Q
variable {o e : Expr} {es : List Expr} {to : TE} {t : TA} {name : Str} {apos cpos : Pos} {T id : String} {r : V → List V → Hp → VK → Prop}
theorem pe_bm (pa : PlainAttrs T) (slot : Slot T name id) (hty : typeOf (.builtin id) = pure (.type "method_descriptor")) (hm : MtR X id r) (ho : PE X o to) (ha : PA X (e :: es) t)
    (hbase : attributeBase o name X.env (eval o X.env) = eval o X.env := by rfl)
    (hfew : ((backTo cpos (starEach (e :: es) X.env)).all (fun x => !x.1) && (backToKw cpos (keywordEach [] X.env)).all (fun x => x.1.isSome)
      && decide ((e :: es).length + ([] : List Keyword).length + (if ([] : List Keyword).isEmpty then 0 else 1) < 30)) = true := by rfl)
    (hline : (apos.endLine == cpos.line) = true := by rfl) (hs : starEach (e :: es) X.env = (false, eval e X.env) :: starEach es X.env := by rfl) (hplain : (backTo cpos (starEach es X.env)).any (·.1) = false := by rfl) :
    PE X (.Call (.Attribute o name apos) (e :: es) [] cpos) (tBM X.K T r to t) := by
  intro pins s σ H Q I h
  refine wpAny_Call_method_late hbase hfew hline rfl (thn (ho pins s σ H _ I h) fun v s1 ⟨x, H1, I1, r1, ty, q1⟩ => ?_)
  obtain ⟨h1, h2⟩ := tyV_is I1 r1 ty
  refine ⟨T, id, pa, slot, hty, h1, h2, ?_⟩
  have hA := ha cpos pins s1 σ H1 _ I1 q1
  rw [hs] at hA ⊢
  refine Calls.callWith_builtin (by show (false || (backTo cpos (starEach es X.env)).any (·.1)) = false; rw [hplain] <;> rfl) (Calls.evalArgs_plain ?_)
  exact thn hA fun us s2 ⟨vs, H2, I2, r2, q2⟩ => hm pins s2 σ H2 x vs v us Q I2 r1 r2 q2
end
def MtM (X : Cx) (id : String) (r : V → List V → Hp → VK → Prop) : Prop :=
  ∀ (pins : List (Addr × Obj)) (s : Shared) (σ : St) (H : Hp) (x : V) (xs : List V) (v : Value) (us : List Value) (Q : VK), Inv X pins σ H s → RelV x v → Vals xs us → r x xs H Q →
    wpAny (model X.prog X.w) X.A (call (.builtin id) (v :: us)) (EP X pins σ Q) X.xe s
theorem Vals.one : ∀ {x : V} {us : List Value}, Vals [x] us → ∃ u, us = [u] ∧ RelV x u
  | _, _, .cons r .nil => ⟨_, rfl, r⟩
theorem Vals.rep {xs : List V} {us : List Value} (h : Vals xs us) : ∀ k : Nat, Vals (List.replicate k xs).flatten (List.replicate k us).flatten
  | 0 => .nil
  | k + 1 => by
    rw [List.replicate_succ, List.replicate_succ, List.flatten_cons, List.flatten_cons]
    exact Vals.append h (Vals.rep h k)
theorem foldl_rep (its : List Value) : ∀ (k : Nat) (acc : List Value),
    List.foldl (fun x1 x2 => x1 ++ x2) acc.toArray (List.replicate k its.toArray) = (acc ++ (List.replicate k its).flatten).toArray
  | 0, acc => by simp
  | k + 1, acc => by
    have e : acc.toArray ++ its.toArray = (acc ++ its).toArray := by simp
    have e2 : (acc ++ its) ++ (List.replicate k its).flatten = acc ++ (List.replicate (k + 1) its).flatten := by
      rw [List.replicate_succ, List.flatten_cons, List.append_assoc]
    rw [← e2, ← foldl_rep its k (acc ++ its), ← e, List.replicate_succ, List.foldl_cons]
section
variable {X : Cx} {pins : List (Addr × Obj)} {σ : St} {H : Hp} {s : Shared} {l b : Addr} {xs ys zs : List V}
theorem Inv.lset {its its' : List Value} {n : Nat} {f : Array Value → Array Value} {t' : Nat} (I : Inv X pins σ H s) (hH : H l = some (.lst xs))
    (e : s.heap.get? l = some { cls := .type "list", data := .seq its.toArray n }) (hf : f its.toArray = its'.toArray) (hv : Vals ys its') (hz : ys.length ≤ sizeLine) :
    Inv X pins σ (upd H l (.lst ys)) { s with heap := s.heap.update l (Obj.mapSeq f), toks := t' } := by
  have q := PySem.IsL.update e f
  rw [hf] at q
  refine I.write (x := l) (e := l) (by rw [hH]; exact trivial) (.inl rfl) (fun b' u hb hu => (Heap.get?_update_other s.heap (Obj.mapSeq f) (Ne.symm hb)).trans hu) ⟨_, q⟩ ?_
  exact ⟨hz, its', _, hv, q⟩
theorem Inv.lnew {its : List Value} {t' : Nat} (I : Inv X pins σ H s) (hv : Vals ys its) (hz : ys.length ≤ sizeLine) :
    Inv X pins σ (upd H s.heap.objs.size (.lst ys)) { s with heap := s.heap.push { cls := .type "list", data := .seq its.toArray }, toks := t' } :=
  I.laid (fun _ _ q => Heap.get?_push_of_some _ q) (Nat.le_refl _) ⟨hz, its, 0, hv, Heap.get?_push_size _ rfl⟩
theorem Inv.fresh (I : Inv X pins σ H s) : H s.heap.objs.size = none := I.hok.fresh (Nat.le_refl _)
theorem Inv.lstM (I : Inv X pins σ H s) (hH : H l = some (.lst xs)) : xs.length ≤ sizeLine ∧ ∃ (its : List Value) (n : Nat), Vals xs its ∧ xs.length = its.length ∧ s.heap.get? l = some { cls := .type "list", data := .seq its.toArray n } := by
  obtain ⟨z, its, n, r, e⟩ := I.hok l _ hH
  exact ⟨z, its, n, r, r.length, e⟩
theorem notLongL {n : Nat} (h : n ≤ sizeLine) : Builtin.List.listTooLong n = false := by
  unfold Builtin.List.listTooLong
  exact decide_eq_false (by omega)
end
section
variable {X : Cx}
def rAppend : V → List V → Hp → VK → Prop := fun x vs H Q => ∃ l xs y, x = .ref l ∧ vs = [y] ∧ H l = some (.lst xs) ∧ xs.length < sizeLine ∧ Q .non (upd H l (.lst (xs ++ [y])))
theorem mt_append : MtM X "list.append" rAppend := by
  intro pins s σ H x vs v us Q I rx rv h
  obtain ⟨l, xs, y, rfl, rfl, hH, hz, q⟩ := h
  cases rx
  obtain ⟨u, rfl, ru⟩ := rv.one
  obtain ⟨z, its, n, r, hl, e⟩ := I.lstM hH
  refine call_meets F.slot_list_append ⟨_, e, rfl⟩ F.entry_list_append (F.args_list_append_2 _ _) (PySem.list_append l its.toArray n u (by rw [List.size_toArray]; omega)) ⟨e, ?_⟩
  refine ⟨.non, _, I.lset (its' := its ++ [u]) hH e (by simp) (r.append (.cons ru .nil)) ?_, rfl, q⟩
  rw [List.length_append, List.length_singleton]
  omega
def rExtend : V → List V → Hp → VK → Prop := fun x vs H Q => ∃ l b xs zs, x = .ref l ∧ vs = [.ref b] ∧ H l = some (.lst xs) ∧ H b = some (.lst zs) ∧ xs.length + zs.length ≤ sizeLine ∧ Q .non (upd H l (.lst (xs ++ zs)))
theorem mt_extend : MtM X "list.extend" rExtend := by
  intro pins s σ H x vs v us Q I rx rv h
  obtain ⟨l, b, xs, zs, rfl, rfl, hH, hB, hz, q⟩ := h
  cases rx
  obtain ⟨u, rfl, ru⟩ := rv.one
  cases ru
  obtain ⟨z, its, n, r, hl, e⟩ := I.lstM hH
  obtain ⟨z2, its2, n2, r2, hl2, e2⟩ := I.lstM hB
  have hsz : its.toArray.size + its2.toArray.size ≤ sizeLine := by rw [List.size_toArray, List.size_toArray]; omega
  have hlong : ¬ (!its.toArray.isEmpty && Builtin.List.listTooLong (its.toArray.size + its2.toArray.size)) = true := by
    rw [notLongL hsz, Bool.and_false]
    exact Bool.false_ne_true
  refine call_meets F.slot_list_extend ⟨_, e, rfl⟩ F.entry_list_extend (F.args_list_extend_2 _ _)
    (AutoSeq1.list_extend_list_list_0 l its.toArray n b its2.toArray n2 hlong (by rw [List.size_toArray]; omega) (by omega)) ⟨e, e2, ?_⟩
  refine ⟨.non, _, I.lset (its' := its ++ its2) hH e (by simp) (r.append r2) ?_, rfl, q⟩
  rw [List.length_append]
  omega
def rCat : R2 := fun x y H Q => ∃ l b xs zs, x = .ref l ∧ y = .ref b ∧ H l = some (.lst xs) ∧ H b = some (.lst zs) ∧ xs.length + zs.length ≤ sizeLine ∧ ∀ p, H p = none → Q (.ref p) (upd H p (.lst (xs ++ zs)))
theorem op_cat : OpR X (binaryOp .Add) rCat := by
  intro pins s σ H x y v u Q I rx ry h
  obtain ⟨l, b, xs, zs, rfl, rfl, hH, hB, hz, q⟩ := h
  cases rx
  cases ry
  obtain ⟨z, its, n, r, hl, e⟩ := I.lstM hH
  obtain ⟨z2, its2, n2, r2, hl2, e2⟩ := I.lstM hB
  refine PySem.P.add_list e e2 ?_ (by rw [List.size_toArray, List.size_toArray]; omega)
  have ea : its.toArray ++ its2.toArray = (its ++ its2).toArray := by simp
  rw [ea]
  exact ⟨.ref _, _, I.lnew (t' := s.toks) (r.append r2) (by rw [List.length_append]; omega), rfl, q _ I.fresh⟩
def rRep : R2 := fun x y H Q => ∃ l k xs, x = .ref l ∧ y = .int k ∧ H l = some (.lst xs) ∧ -(2 ^ 63) ≤ k ∧ k < 2 ^ 63 ∧ xs.length * k.toNat ≤ sizeLine ∧
  ∀ p, H p = none → Q (.ref p) (upd H p (.lst (List.replicate k.toNat xs).flatten))
theorem len_rep {α : Type} (xs : List α) (k : Nat) : (List.replicate k xs).flatten.length = k * xs.length := by
  induction k with
  | zero => simp
  | succ k ih => rw [List.replicate_succ, List.flatten_cons, List.length_append, ih, Nat.succ_mul, Nat.add_comm]
theorem op_rep : OpR X (binaryOp .Mult) rRep := by
  intro pins s σ H x y v u Q I rx ry h
  obtain ⟨l, k, xs, rfl, rfl, hH, h1, h2, hz, q⟩ := h
  cases rx
  obtain ⟨t, rfl⟩ := ry
  obtain ⟨z, its, n, r, hl, e⟩ := I.lstM hH
  have hlen : its.toArray.size * k.toNat ≤ sizeLine := by rw [List.size_toArray, ← hl]; exact hz
  have hcap : ¬ its.toArray.size * k.toNat > (2 ^ 63 - 1) / 8 := by
    have : (sizeLine : Nat) ≤ (2 ^ 63 - 1) / 8 := by decide
    omega
  have hfit : ¬ (!Builtin.List.listFitsIndex k) = true := by
    rw [fitsIndex_both h1 h2]
    exact Bool.false_ne_true
  have hlong : ¬ Builtin.List.listTooLong (its.toArray.size * k.toNat) = true := by
    rw [notLongL hlen]
    exact Bool.false_ne_true
  have hnew : List.foldl (fun x1 x2 => x1 ++ x2) #[] (List.replicate (if its.toArray.isEmpty = true then 0 else k.toNat) its.toArray) = (List.replicate k.toNat its).flatten.toArray := by
    have f0 : ∀ m : Nat, List.foldl (fun x1 x2 => x1 ++ x2) #[] (List.replicate m its.toArray) = (List.replicate m its).flatten.toArray := fun m => by
      have := foldl_rep its m []
      rw [List.nil_append] at this
      exact this
    rw [f0]
    cases its with
    | nil => simp
    | cons a r' => rw [if_neg (by simp)]
  refine wpAny_binaryOp_repeat_ref (T := "list") (U := "int") (by decide) ⟨_, e, rfl⟩ (fun s' => typeIs_int s' k t) noFill_list_mul F.fills_int_mul F.slot_int_rmul repeat_list F.slot_int_index.lookup
    (call_meets F.slot_int_rmul (typeIs_int s k t) F.entry_int_rmul (F.args_int_rmul_2 _ _) (int___rmul___int_list k t l its.toArray n)
      ⟨e, rfl, ⟨_, e, rfl⟩, call_meets F.slot_list_mul ⟨_, e, rfl⟩ F.entry_list_mul (F.args_list_mul_2 _ _) (AutoListH.list___mul___list_int_3 l its.toArray n k t hfit hcap hlong) ⟨e, ?_⟩⟩)
  rw [hnew]
  exact ⟨.ref _, _, I.lnew (t' := s.toks) (r.rep k.toNat) (by rw [len_rep, Nat.mul_comm]; exact hz), rfl, q _ I.fresh⟩
end
section
variable {prog : Program} {w : World} {A : Around} {E : Value → Shared → Prop} {s : Shared}
end
section
variable {X : Cx}
end
theorem Vals.ints : ∀ {ns : List Int} {us : List Value}, Vals (ns.map V.int) us → IntsAre us ns
  | [], us, h => by
    rw [List.map_nil] at h
    cases h
    exact IntsAre.nil
  | n :: ns, us, h => by
    rw [List.map_cons] at h
    cases h with
    | cons r t =>
      obtain ⟨k, rfl⟩ := r
      exact IntsAre.cons n k (Vals.ints t)
theorem Vals.bls : ∀ {bs : List Bool} {us : List Value}, Vals (bs.map V.bl) us → us = bs.map Value.bool
  | [], us, h => by
    rw [List.map_nil] at h
    cases h
    rfl
  | b :: bs, us, h => by
    rw [List.map_cons] at h
    cases h with
    | cons r t =>
      cases r
      rw [Vals.bls t, List.map_cons]
theorem Vals.ref1 {a : Addr} {us : List Value} (r : Vals [V.ref a] us) : us = [Value.ref a] := by
  cases r with
  | cons r t =>
    cases t
    cases r
    rfl
section
variable {prog : Program} {w : World} {A : Around} {E : Value → Shared → Prop} {s : Shared} {l : Addr} {its : List Value} {ns : List Int} {Q : Value → Shared → Prop}
theorem max_raw (hh : A.handled = none) (hl : s.heap.IsList l its.toArray) (hi : IntsAre its ns) (hne : 0 < ns.length)
    (h : ∀ h' tk M t', (∀ b o, s.heap.get? b = some o → h'.get? b = some o) → M ∈ ns → (∀ a, a ∈ ns → a ≤ M) → Q (.int M t') { s with heap := h', toks := tk }) : wpAny (model prog w) A (call (.builtin "max") [.ref l]) Q E s := by
  obtain ⟨xs, e⟩ := hi.allInts.items
  have hn : numsOf (intItems xs).toList = ns := by rw [← e]; exact hi.numsOf
  rw [nums_intItems] at hn
  subst hn
  rw [e] at hl
  have hsz : 0 < xs.size := by simpa using hne
  refine PySem.max_intList hh hl hsz fun v h' tk hv hk => ?_
  obtain ⟨t, rfl⟩ := intItems_at hv
  obtain ⟨h1, h2⟩ := argBest_gt (numAt xs) (xs.size - 1)
  refine h h' tk _ t hk ?_ fun a ha => ?_
  · rw [numAt_eq]; exact PySem.getD_mem (by rw [List.length_map, Array.length_toList]; omega)
  · obtain ⟨j, hj, rfl⟩ := mem_getD ha
    rw [List.length_map, Array.length_toList] at hj
    rw [← numAt_eq]; exact h2 j (by omega)
end
section
variable {X : Cx}
def rMax (K : PySem.W.Frag) : List V → Hp → VK → Prop := fun vs H Q => ∃ (a : Addr) (ns : List Int), vs = [V.ref a] ∧ SqL K H a (ns.map V.int) ∧ 0 < ns.length ∧ ∀ m, m ∈ ns → (∀ y, y ∈ ns → y ≤ m) → Q (.int m) H
theorem cr_max (hc : X.calm = true) : CallR X (.builtin "max") (rMax X.K) := by
  intro pins s σ H vs us Q I r h
  obtain ⟨a, ns, rfl, hs, hne, q⟩ := h
  obtain ⟨its, rv, hl, _⟩ := I.list hs
  rw [Vals.ref1 r]
  exact max_raw (I.ok.hd hc) hl.isList rv.ints hne fun h' tk m t' hk h1 h2 => ⟨.int _, H, I.kept hk, ⟨_, rfl⟩, q m h1 h2⟩
end
section
variable {X : Cx}
end
section
variable {X : Cx}
end
theorem iter_any {prog : Program} {w : World} {A : Around} {E : Value → Shared → Prop} {s : Shared} {l : Addr} {items : Array Value} {Q : Value → Shared → Prop} (hl : s.heap.IsList l items)
    (h : ∀ s₂ : Shared, s₂ = { s with heap := s.heap.push { cls := .type "list_iterator", data := .fields #[.ref l, .int 0 0] } } →
      (s₂.heap.IsListIter s.heap.objs.size l 0 ∧ s₂.heap.IsList l items) → l ≠ s.heap.objs.size → Q (.ref s.heap.objs.size) s₂) : wpAny (model prog w) A (pyIter (.ref l)) Q E s := by
  have hlt : l < s.heap.objs.size := by obtain ⟨_, e, _⟩ := hl; exact Heap.lt_size e
  exact wpAny_pyIter_list hl (h _ rfl ⟨⟨_, Heap.get?_push_size _ rfl, rfl, rfl⟩, hl.push _⟩ (Nat.ne_of_lt hlt))
theorem truth_bools {prog : Program} {w : World} {A : Around} {bs : List Bool} {its : List Value} (e : its = bs.map Value.bool) :
    TruthOf prog w A (fun i v => its.toArray[i]? = some v) (fun i => bs.getD i false) := fun i v s Q E hv hq => by
  have hv' : its[i]? = some v := by simpa using hv
  rw [e, List.getElem?_map] at hv'
  obtain ⟨b, hb, rfl⟩ := Option.map_eq_some_iff.mp hv'
  have hg : bs.getD i false = b := by rw [List.getD_eq_getElem?_getD, hb] <;> rfl
  have hq' : Q (bs.getD i false) s := hq
  rw [hg] at hq'
  exact wpAny_truthy_bool hq'
theorem any_range : ∀ bs : List Bool, (List.range bs.length).any (fun i => bs.getD i false) = bs.any id
  | [] => rfl
  | b :: bs => by
    rw [List.length_cons, List.range_succ_eq_map, List.any_cons, List.any_map, List.any_cons, ← any_range bs]
    all_goals rfl
theorem all_range : ∀ bs : List Bool, (List.range bs.length).all (fun i => bs.getD i false) = bs.all id
  | [] => rfl
  | b :: bs => by
    rw [List.length_cons, List.range_succ_eq_map, List.all_cons, List.all_map, List.all_cons, ← all_range bs]
    all_goals rfl
section
variable {X : Cx}
def rAll (K : PySem.W.Frag) : List V → Hp → VK → Prop := fun vs H Q => ∃ (a : Addr) (bs : List Bool), vs = [V.ref a] ∧ SqL K H a (bs.map V.bl) ∧ Q (.bl (bs.all id)) H
theorem cr_all (hc : X.calm = true) : CallR X (.builtin "all") (rAll X.K) := by
  intro pins s σ H vs us Q I r h
  obtain ⟨a, bs, rfl, hs, q⟩ := h
  obtain ⟨its, rv, hl, _⟩ := I.list hs
  rw [Vals.ref1 r]
  have hb := rv.bls
  refine call_all_walk (iter_any hl.isList fun s₂ e2 st hne => ?_)
  subst e2
  refine ⟨_, _, _, _, _, _, _, rfl, Walks.list (A := X.A.in1) (I.ok.hd hc) _ a hne its.toArray, st, truth_bools hb, fun h' tk hk => ?_⟩
  refine ⟨.bl _, H, I.kept fun b o eo => hk b o (fun hmem => ?_) (Heap.get?_push_of_some _ eo), ?_, q⟩
  · rcases List.mem_cons.mp hmem with e1 | hmem
    · exact absurd (e1 ▸ Heap.lt_size eo) (Nat.lt_irrefl _)
    · cases hmem
  · show Value.bool _ = Value.bool _
    rw [← all_range, hb, List.size_toArray, List.length_map]
end
mutual
inductive Dp (K : PySem.W.Frag) (H : Hp) : V → PyData → Prop
  | non : Dp K H .non .none
  | bl (b : Bool) : Dp K H (.bl b) (.bool b)
  | int (i : Int) : Dp K H (.int i) (.int i)
  | str (x : Str) : Dp K H (.str x) (.str x)
  | lst {a : Addr} {xs : List V} {ds : List PyData} : SqL K H a xs → DpAll K H xs ds → Dp K H (.ref a) (.list ds)
  | tup {a : Addr} {xs : List V} {ds : List PyData} : SqT K H a xs → DpAll K H xs ds → Dp K H (.ref a) (.tuple ds)
inductive DpAll (K : PySem.W.Frag) (H : Hp) : List V → List PyData → Prop
  | nil : DpAll K H [] []
  | cons {v : V} {vs : List V} {d : PyData} {ds : List PyData} : Dp K H v d → DpAll K H vs ds → DpAll K H (v :: vs) (d :: ds)
end
section
variable {X : Cx} {pins : List (Addr × Obj)} {σ : St} {H : Hp} {s : Shared}
mutual
theorem Dp.reads (I : Inv X pins σ H s) : ∀ (d : PyData) (v : V) (u : Value), Dp X.K H v d → RelV v u → ∃ as, Reads s.heap u d as
  | .none, _, _, h, r => by
    cases h
    cases r
    exact ⟨_, Reads.none⟩
  | .bool b, _, _, h, r => by
    cases h
    cases r
    exact ⟨_, Reads.bool b⟩
  | .int i, _, _, h, r => by
    cases h
    obtain ⟨t, rfl⟩ := r
    exact ⟨_, Reads.int i t⟩
  | .str x, _, _, h, r => by
    cases h
    obtain ⟨t, rfl⟩ := r
    exact ⟨_, Reads.str x t⟩
  | .list ds, _, _, h, r => by
    cases h with
    | lst hs ha =>
      cases r
      obtain ⟨its, rv, ⟨o, n, ho, hc, _, hd⟩, _⟩ := I.list hs
      obtain ⟨as, hr⟩ := Dp.readsAll I ds _ its ha rv
      exact ⟨_, Reads.list ho hc hd hr⟩
  | .tuple ds, _, _, h, r => by
    cases h with
    | tup hs ha =>
      cases r
      obtain ⟨its, rv, ⟨o, ho, hc, n, hd⟩, _⟩ := I.tuple hs
      obtain ⟨as, hr⟩ := Dp.readsAll I ds _ its ha rv
      exact ⟨_, Reads.tuple ho hc hd hr⟩
  | .dict _, _, _, h, _ => by cases h
theorem Dp.readsAll (I : Inv X pins σ H s) : ∀ (ds : List PyData) (vs : List V) (us : List Value), DpAll X.K H vs ds → Vals vs us → ∃ as, ReadsAll s.heap us ds as
  | [], _, _, h, r => by
    cases h
    cases r
    exact ⟨_, ReadsAll.nil⟩
  | d :: ds, _, _, h, r => by
    cases h with
    | cons h1 h2 =>
      cases r with
      | cons r1 r2 =>
        obtain ⟨as, q1⟩ := Dp.reads I d _ _ h1 r1
        obtain ⟨bs, q2⟩ := Dp.readsAll I ds _ _ h2 r2
        exact ⟨_, ReadsAll.cons q1 q2⟩
end
end
section
variable {X : Cx}
def rNeD (K : PySem.W.Frag) : R2 := fun x y H Q => ∃ d e, Dp K H x d ∧ Dp K H y e ∧ SeqAt.shaped d = true ∧ SeqAt.shaped e = true ∧ Q (.bl (!PyData.eqv d e)) H
theorem op_neD (hu : X.A.units + 64 < cLine) : OpR X (compareOp .NotEq) (rNeD X.K) := by
  intro pins s σ H x y v u Q I rx ry h
  obtain ⟨d, e, hd, he, sd, se, q⟩ := h
  obtain ⟨as, r1⟩ := Dp.reads I d x v hd rx
  obtain ⟨bs, r2⟩ := Dp.reads I e y u he ry
  exact SeqAt.compareNe_shaped r1 r2 sd se hu ⟨.bl _, H, I, rfl, q⟩
end
abbrev CellAt (h : Heap) (c : Addr) (v : Option Value) : Prop := h.IsCell c v
def relS (scope sc : Scope) : Scope :=
  { scope with names := scope.names.map fun (n, k) => if (k == .free && sc.kind == .function && sc.names.lookup n == some .cell) then (n, .cell) else (n, k) }
def cloFrom (cells : List (Str × Addr)) : List (Str × NameKind) → List (Str × Addr) → List (Str × Addr)
  | [], acc => acc
  | (n, k) :: r, acc => if k == .free then cloFrom cells r ((n, (cells.lookup n).getD 0) :: acc) else cloFrom cells r acc
theorem closure_loop (env : Env) (f : Str × NameKind → List (Str × Addr) → Sem (ForInStep (List (Str × Addr))))
    (hf : ∀ n k c, f (n, k) c = if k == .free then (do let a ← cellOf env n; pure (.yield ((n, a) :: c))) else pure (.yield c)) :
    ∀ (names : List (Str × NameKind)) (acc : List (Str × Addr)), (∀ y ∈ names, y.2 = .free → ∃ c, env.cells.lookup y.1 = some c) → forIn names acc f = pure (cloFrom env.cells names acc)
  | [], acc, _ => by rw [List.forIn_nil]; rfl
  | (n, k) :: r, acc, h => by
    rw [List.forIn_cons, hf]
    have ih := fun acc => closure_loop env f hf r acc fun y hy => h y (List.mem_cons_of_mem _ hy)
    unfold cloFrom
    by_cases hk : (k == NameKind.free) = true
    · rw [if_pos hk, if_pos hk]
      obtain ⟨c, hc⟩ := h (n, k) List.mem_cons_self (by simpa using hk)
      have e : cellOf env n = pure c := by unfold cellOf; rw [hc]
      rw [e]
      have e2 : (env.cells.lookup n).getD 0 = c := by rw [hc]; rfl
      rw [e2]
      exact ih _
    · rw [if_neg hk, if_neg hk]
      exact ih _
theorem closure_ok {scope : Scope} {env : Env} (h : ∀ y ∈ scope.names, y.2 = .free → ∃ c, env.cells.lookup y.1 = some c) : closureFor scope env = pure (cloFrom env.cells scope.names []) := by
  simp only [closureFor]
  rw [closure_loop env _ (fun n k c => rfl) scope.names [] h]
  rfl
theorem mem_lookup {α : Type} : ∀ {l : List (Str × α)} {n : Str} {c : α}, (n, c) ∈ l → ∃ c', l.lookup n = some c'
  | (k, v) :: r, n, c, h => by
    rw [List.lookup_cons]
    cases hb : n == k with
    | true => exact ⟨_, rfl⟩
    | false =>
      rcases List.mem_cons.mp h with e | h
      · cases e; simp at hb
      · exact mem_lookup h
theorem cloFrom_mem {cells : List (Str × Addr)} : ∀ {names : List (Str × NameKind)} {acc : List (Str × Addr)} {n : Str} {c : Addr}, (n, c) ∈ cloFrom cells names acc → (n, c) ∈ acc ∨ ((n, .free) ∈ names ∧ c = (cells.lookup n).getD 0)
  | [], _, _, _, h => .inl h
  | (m, k) :: r, acc, n, c, h => by
    unfold cloFrom at h
    split at h
    · rename_i hk
      have hk : k = .free := by simpa using hk
      rcases cloFrom_mem h with h | ⟨h1, h2⟩
      · rcases List.mem_cons.mp h with e | h
        · cases e; exact .inr ⟨hk ▸ List.mem_cons_self, rfl⟩
        · exact .inl h
      · exact .inr ⟨List.mem_cons_of_mem _ h1, h2⟩
    · rcases cloFrom_mem h with h | ⟨h1, h2⟩
      · exact .inl h
      · exact .inr ⟨List.mem_cons_of_mem _ h1, h2⟩
theorem cloFrom_acc {cells : List (Str × Addr)} : ∀ {names : List (Str × NameKind)} {acc : List (Str × Addr)} {p : Str × Addr}, p ∈ acc → p ∈ cloFrom cells names acc
  | [], _, _, h => h
  | (m, k) :: r, acc, p, h => by
    unfold cloFrom
    split
    · exact cloFrom_acc (List.mem_cons_of_mem _ h)
    · exact cloFrom_acc h
theorem cloFrom_has {cells : List (Str × Addr)} : ∀ {names : List (Str × NameKind)} {acc : List (Str × Addr)} {n : Str}, (n, .free) ∈ names → (n, (cells.lookup n).getD 0) ∈ cloFrom cells names acc
  | (m, k) :: r, acc, n, h => by
    unfold cloFrom
    rcases List.mem_cons.mp h with e | h
    · cases e
      exact cloFrom_acc List.mem_cons_self
    · split
      · exact cloFrom_has h
      · exact cloFrom_has h
theorem cells_mem : ∀ {names : List (Str × NameKind)} {h : Heap} {acc : List (Str × Addr)} {x : Str} {c : Addr}, (x, c) ∈ cellsFrom h.objs.size names acc →
    (x, c) ∈ acc ∨ ((x, .cell) ∈ names ∧ h.objs.size ≤ c ∧ CellAt (pushCells h names) c none)
  | [], _, _, _, _, h => .inl h
  | (n, k) :: r, h, acc, x, c, hm => by
    unfold cellsFrom at hm
    unfold pushCells
    split at hm
    · rename_i hk
      rw [if_pos hk]
      have hk : k = .cell := by simpa using hk
      rw [← Heap.size_push h { cls := .type "cell", data := .cell none }] at hm
      rcases cells_mem hm with hm | ⟨h1, h2, h3⟩
      · rcases List.mem_cons.mp hm with e | hm
        · cases e
          exact .inr ⟨hk ▸ List.mem_cons_self, Nat.le_refl _, _, pushCells_keeps r _ _ _ (Heap.get?_push_size _ rfl), rfl⟩
        · exact .inl hm
      · rw [Heap.size_push] at h2
        exact .inr ⟨List.mem_cons_of_mem _ h1, Nat.le_of_succ_le h2, h3⟩
    · rename_i hk
      rw [if_neg hk]
      rcases cells_mem hm with hm | ⟨h1, h2, h3⟩
      · exact .inl hm
      · exact .inr ⟨List.mem_cons_of_mem _ h1, h2, h3⟩
theorem cells_acc : ∀ {names : List (Str × NameKind)} {n : Nat} {acc : List (Str × Addr)} {p : Str × Addr}, p ∈ acc → p ∈ cellsFrom n names acc
  | [], _, _, _, h => h
  | (m, k) :: r, n, acc, p, h => by
    unfold cellsFrom
    split
    · exact cells_acc (List.mem_cons_of_mem _ h)
    · exact cells_acc h
theorem cells_has : ∀ {names : List (Str × NameKind)} {n : Nat} {acc : List (Str × Addr)} {x : Str}, (x, .cell) ∈ names → ∃ c, (x, c) ∈ cellsFrom n names acc
  | (m, k) :: r, n, acc, x, h => by
    unfold cellsFrom
    rcases List.mem_cons.mp h with e | h
    · cases e
      exact ⟨n, cells_acc List.mem_cons_self⟩
    · split
      · exact cells_has h
      · exact cells_has h
theorem cells_inj : ∀ {names : List (Str × NameKind)} {h : Heap} {acc : List (Str × Addr)} {x y : Str} {c : Addr}, (∀ p ∈ acc, p.2 < h.objs.size) → (∀ x y c, (x, c) ∈ acc → (y, c) ∈ acc → x = y) →
    (x, c) ∈ cellsFrom h.objs.size names acc → (y, c) ∈ cellsFrom h.objs.size names acc → x = y
  | [], _, _, _, _, _, _, hi, h1, h2 => hi _ _ _ h1 h2
  | (n, k) :: r, h, acc, x, y, c, hl, hi, h1, h2 => by
    unfold cellsFrom at h1 h2
    split at h1
    · rename_i hk
      rw [if_pos hk] at h2
      rw [← Heap.size_push h { cls := .type "cell", data := .cell none }] at h1 h2
      refine cells_inj (h := h.push _) (fun p hp => ?_) (fun x y c a b => ?_) h1 h2
      · rw [Heap.size_push]
        rcases List.mem_cons.mp hp with rfl | hp
        · exact Nat.lt_succ_self _
        · exact Nat.lt_succ_of_lt (hl p hp)
      · rcases List.mem_cons.mp a with e | a <;> rcases List.mem_cons.mp b with e' | b
        · cases e; cases e'; rfl
        · cases e; exact absurd (hl _ b) (Nat.lt_irrefl _)
        · cases e'; exact absurd (hl _ a) (Nat.lt_irrefl _)
        · exact hi _ _ _ a b
    · rename_i hk
      rw [if_neg hk] at h2
      exact cells_inj hl hi h1 h2
theorem newEnv_comp {M : Model} {A : Around} {E : Value → Shared → Prop} {s : Shared} {scope : Scope} {globals : Addr} {closure : List (Str × Addr)} {qual : Str} {func : Option Addr} {code : Value} {around : Env} {builtins : Addr} {Q : Env → Shared → Prop}
    (h : Q (newEnv scope s.heap.objs.size globals (cellsFrom (s.heap.objs.size + 1) scope.names closure) qual func code (some around) builtins)
      { s with heap := pushCells (s.heap.push { cls := .type "dict", data := .dict #[] }) scope.names }) :
    wpAny M A (newFunctionEnv scope globals closure [] qual func code (some around) builtins) Q E s := by
  simp only [newFunctionEnv, Option.isSome_some, if_true]
  refine wpAny_bind (wpAny_alloc ?_)
  refine wpAny_bind (wpAny_layCells _ (fun n k c => rfl) scope.names closure _ _ ?_)
  rw [show ({ s with heap := s.heap.push { cls := .type "dict", data := .dict #[] } } : Shared).heap.objs.size = s.heap.objs.size + 1 from Heap.size_push ..]
  rw [List.forIn_nil]
  exact wpAny_bind (wpAny_pure (wpAny_pure h))
theorem lookup_relS {sc : Scope} : ∀ {names : List (Str × NameKind)} {x : Str} {k : NameKind},
    (names.map fun (n, k) => if (k == NameKind.free && sc.kind == .function && sc.names.lookup n == some .cell) then (n, NameKind.cell) else (n, k)).lookup x = some k →
    ∃ k', names.lookup x = some k' ∧ (k = k' ∨ (k' = .free ∧ k = .cell))
  | [], _, _, h => by simp at h
  | (n, k₀) :: r, x, k, h => by
    have ih := @lookup_relS sc r x k
    have h' : List.lookup x ((if (k₀ == NameKind.free && sc.kind == .function && sc.names.lookup n == some .cell) = true then (n, NameKind.cell) else (n, k₀)) :: (r.map _)) = some k := h
    cases hx : x == n with
    | true =>
      simp only [List.lookup_cons, hx]
      by_cases hc : (k₀ == NameKind.free && sc.kind == .function && sc.names.lookup n == some .cell) = true
      · rw [if_pos hc] at h'
        simp only [List.lookup_cons, hx] at h'
        cases h'
        simp only [Bool.and_eq_true, beq_iff_eq] at hc
        exact ⟨k₀, rfl, .inr ⟨hc.1.1, rfl⟩⟩
      · rw [if_neg hc] at h'
        simp only [List.lookup_cons, hx] at h'
        cases h'
        exact ⟨_, rfl, .inl rfl⟩
    | false =>
      simp only [List.lookup_cons, hx]
      by_cases hc : (k₀ == NameKind.free && sc.kind == .function && sc.names.lookup n == some .cell) = true
      · rw [if_pos hc] at h'
        simp only [List.lookup_cons, hx] at h'
        exact ih h'
      · rw [if_neg hc] at h'
        simp only [List.lookup_cons, hx] at h'
        exact ih h'
structure BlkOk (N : List Str) (sc scope : Scope) (own : List (Str × Nat)) : Prop where
  kind : scope.kind = .function
  uniq : ∀ y ∈ scope.names, scope.names.lookup y.1 = some y.2
  ix : ∀ p ∈ own, N[p.2]? = some p.1
  free : ∀ y ∈ scope.names, y.2 = .free → sc.names.lookup y.1 = some .cell ∨ sc.names.lookup y.1 = some .free
  own : ∀ y ∈ scope.names, y.2 = .local ∨ y.2 = .cell → y.1 ∈ own.map (·.1) ∨ y.1 ∉ N
def wipe (σ : St) : List Nat → St
  | [] => σ
  | v :: vs => (wipe σ vs).set v none
theorem wipe_length (σ : St) : ∀ vs : List Nat, (wipe σ vs).length = σ.length
  | [] => rfl
  | v :: vs => by unfold wipe; rw [List.length_set, wipe_length σ vs]
theorem wipe_some {σ : St} {i : Nat} {x : V} : ∀ {vs : List Nat}, (wipe σ vs)[i]? = some (some x) → σ[i]? = some (some x) ∧ i ∉ vs
  | [], h => ⟨h, by simp⟩
  | v :: vs, h => by
    unfold wipe at h
    by_cases hi : v = i
    · subst hi
      by_cases hv : v < (wipe σ vs).length
      · rw [List.getElem?_set_self hv] at h; cases h
      · rw [List.getElem?_eq_none (by simpa using hv)] at h; cases h
    · rw [List.getElem?_set_ne hi] at h
      obtain ⟨h1, h2⟩ := wipe_some h
      exact ⟨h1, by simp only [List.mem_cons, not_or]; exact ⟨fun e => hi e.symm, h2⟩⟩
abbrev Cx.blk (X : Cx) (s : Shared) (H : Hp) (scope : Scope) (cenv : Env) (fp : List Addr) : Cx := { X with s_0 := s, H_0 := H, env := cenv, outer := X.stack, ex := fp, fn := fun x => scope.names.lookup x == some .cell, pn := [], xe := fun _ _ => False }
section
variable {X : Cx} {pins : List (Addr × Obj)} {σ : St} {H : Hp} {s : Shared}
theorem block_start {scope : Scope} {own : List (Str × Nat)} {fp : List Addr} (I : Inv X pins σ H s) (ok : BlkOk X.N X.env.scope scope own) (hN : X.N.Nodup) (hfp : ∀ b ∈ fp, FpOk X pins H b ∧ b < s.heap.objs.size) :
    Inv (X.blk s H scope (compEnvC scope (cellsFrom (s.heap.objs.size + 1) scope.names (cloFrom X.env.cells scope.names [])) s.heap.objs.size X.env) fp) [] (wipe σ (own.map (·.2))) H { s with heap := pushCells (s.heap.push { cls := .type "dict", data := .dict #[] }) scope.names } := by
  have hfree : ∀ y ∈ scope.names, y.2 = .free → ∃ c, X.env.cells.lookup y.1 = some c := fun y hy e => by
    rcases ok.free y hy e with k | k
    · exact I.ok.has _ (.inl k)
    · exact I.ok.has _ (.inr k)
  generalize hcenv : compEnvC scope (cellsFrom (s.heap.objs.size + 1) scope.names (cloFrom X.env.cells scope.names [])) s.heap.objs.size X.env = cenv
  have kp : ∀ b o, s.heap.get? b = some o → (pushCells (s.heap.push { cls := .type "dict", data := .dict #[] }) scope.names).get? b = some o := fun b o e => pushCells_keeps _ _ _ _ (Heap.get?_push_of_some _ e)
  have hL : cenv.locals = s.heap.objs.size := by rw [← hcenv]; rfl
  have hcl : cenv.cells = cellsFrom (s.heap.objs.size + 1) scope.names (cloFrom X.env.cells scope.names []) := by rw [← hcenv]; rfl
  have hsc : cenv.scope = relS scope X.env.scope := by rw [← hcenv]; rfl
  rw [← Heap.size_push s.heap { cls := .type "dict", data := .dict #[] }] at hcl
  have cm : ∀ {y c}, (y, c) ∈ cloFrom X.env.cells scope.names [] → X.env.cells.lookup y = some c ∧ c < s.heap.objs.size := fun {y c} hm => by
    rcases cloFrom_mem hm with hm | ⟨h1, rfl⟩
    · cases hm
    · obtain ⟨c, hc⟩ := hfree _ h1 rfl
      rw [hc]
      obtain ⟨w, z⟩ := I.cell _ _ hc
      exact ⟨rfl, z.lt⟩
  have mem : ∀ {y c}, cenv.cells.lookup y = some c → (X.env.cells.lookup y = some c ∧ c < s.heap.objs.size) ∨ (s.heap.objs.size + 1 ≤ c ∧ CellAt (pushCells (s.heap.push { cls := .type "dict", data := .dict #[] }) scope.names) c none) := fun {y c} e => by
    rw [hcl] at e
    rcases cells_mem (PySem.mem_of_lookup e) with hm | ⟨_, h2, h3⟩
    · exact .inl (cm hm)
    · rw [Heap.size_push] at h2; exact .inr ⟨h2, h3⟩
  have look : ∀ {y}, scope.names.lookup y = some .free → ∃ c, cenv.cells.lookup y = some c ∧ X.env.cells.lookup y = some c := fun {y} hl => by
    have hy : (y, NameKind.free) ∈ scope.names := PySem.mem_of_lookup hl
    obtain ⟨c', e'⟩ := mem_lookup (cells_acc (names := scope.names) (n := (s.heap.push { cls := .type "dict", data := .dict #[] }).objs.size) (cloFrom_has (cells := X.env.cells) (acc := []) hy))
    rw [← hcl] at e'
    refine ⟨c', e', ?_⟩
    rw [hcl] at e'
    rcases cells_mem (PySem.mem_of_lookup e') with hm | ⟨h1, _, _⟩
    · exact (cm hm).1
    · have := ok.uniq _ h1
      rw [hl] at this; cases this
  have okB : (X.blk s H scope cenv fp).Ok := by
    refine ⟨I.ok.mod, by show cenv.scope.kind = _; rw [hsc]; exact ok.kind, by show cenv.globals = _; rw [← hcenv]; exact I.ok.glob, by show cenv.builtins = _; rw [← hcenv]; exact I.ok.blt, by show s.heap.objs.size ≤ cenv.locals; rw [hL]; exact Nat.le_refl _,
      fun y z c e1 e2 => ?_, fun y hy => ?_, fun y c z e => ?_, I.ok.hd, I.ok.frames, .inl rfl, fun b hb => ⟨?_, fun y c e z => ?_⟩, I.bs, Nat.le_trans I.ok.bsz I.sz, fun b o e hb => ?_, fun b hb z => ?_, I.stack, I.stkFree⟩
    · have e1 : cenv.cells.lookup y = some c := e1
      have e2 : cenv.cells.lookup z = some c := e2
      rw [hcl] at e1 e2
      refine cells_inj (fun p hp => ?_) (fun y z c a b => I.ok.inj y z c (cm a).1 (cm b).1) (PySem.mem_of_lookup e1) (PySem.mem_of_lookup e2)
      rw [Heap.size_push]
      exact Nat.lt_succ_of_lt (cm (y := p.1) (c := p.2) hp).2
    · show ∃ c, cenv.cells.lookup y = some c
      have key : ∀ k, cenv.kindOf y = some k → (k = .cell ∨ k = .free) → ∃ c, cenv.cells.lookup y = some c := fun k hk hk' => by
        unfold Env.kindOf at hk
        rw [hsc] at hk
        obtain ⟨k', e, r⟩ := lookup_relS hk
        have : k' = .cell ∨ k' = .free := by
          rcases r with rfl | ⟨rfl, _⟩
          · exact hk'
          · exact .inr rfl
        rcases this with rfl | rfl
        · obtain ⟨c, hm⟩ := cells_has (n := (s.heap.push { cls := .type "dict", data := .dict #[] }).objs.size) (acc := cloFrom X.env.cells scope.names []) (PySem.mem_of_lookup e)
          obtain ⟨c', e'⟩ := mem_lookup hm
          exact ⟨c', by rw [hcl]; exact e'⟩
        · obtain ⟨c, h1, _⟩ := look e
          exact ⟨c, h1⟩
      rcases hy with hy | hy
      · exact key _ hy (.inl rfl)
      · exact key _ hy (.inr rfl)
    · have z : (scope.names.lookup y == some NameKind.cell) = true := z
      have z : scope.names.lookup y = some .cell := by simpa using z
      have e : cenv.cells.lookup y = some c := e
      rw [hcl] at e
      rcases cells_mem (PySem.mem_of_lookup e) with hm | ⟨_, h2, _⟩
      · rcases cloFrom_mem hm with hm | ⟨h1, _⟩
        · cases hm
        · have q := ok.uniq _ h1
          rw [z] at q; cases q
      · rw [Heap.size_push] at h2
        exact Nat.le_of_succ_le h2
    · show b ≠ cenv.locals
      rw [hL]; exact Nat.ne_of_lt (hfp b hb).2
    · have e : cenv.cells.lookup y = some c := e
      rcases mem e with ⟨h1, _⟩ | ⟨h1, _⟩
      · exact (hfp b hb).1.2.2.2.2.1 y c h1 z
      · have h2 : s.heap.objs.size + 1 ≤ b := by rw [← z]; exact h1
        exact absurd (Nat.lt_of_lt_of_le (hfp b hb).2 (Nat.le_of_succ_le h2)) (Nat.lt_irrefl _)
    · rcases (hfp b hb).1.2.2.2.1 with z | z
      · exact I.ok.noex b o e z
      · exact absurd (Nat.lt_of_lt_of_le (Heap.lt_size e) (Nat.le_trans I.ok.bsz z)) (Nat.lt_irrefl _)
    · rcases List.mem_cons.mp (I.stkSub b z) with z | z
      · exact (hfp b hb).1.2.1 z
      · exact (hfp b hb).1.2.2.1 z
  refine ⟨okB, rfl, I.bare, Un.kept kp, ⟨fun _ => none, ?_, fun i y av e1 e2 e3 => ?_⟩, fun y c e => ?_, ?_, fun y c e => ?_, fun p hp => ?_, I.hok.kept kp, by rw [wipe_length]; exact I.len⟩
  · show Heap.Ns _ cenv.locals _
    rw [hL]
    exact Heap.Ns.keeps (Heap.Ns.new ..) fun b o e => pushCells_keeps _ _ _ _ e
  · obtain ⟨e2, hne⟩ := wipe_some e2
    have hfr : scope.names.lookup y = some .free ∧ (cenv.kindOf y = some .cell ∨ cenv.kindOf y = some .free) := by
      have key : ∀ k, cenv.scope.names.lookup y = some k → k = .local ∨ k = .cell ∨ k = .free → scope.names.lookup y = some .free ∧ (cenv.kindOf y = some .cell ∨ cenv.kindOf y = some .free) := fun k hk hk' => by
        have hk0 := hk
        rw [hsc] at hk
        obtain ⟨k', e, r⟩ := lookup_relS hk
        have no : ¬ (k' = .local ∨ k' = .cell) := fun hh => by
          rcases ok.own _ (PySem.mem_of_lookup e) hh with e' | e'
          · obtain ⟨p, hp, hpy⟩ := List.mem_map.mp e'
            have e3 := ok.ix p hp
            have : p.1 = y := hpy
            rw [this] at e3
            exact hne (List.mem_map.mpr ⟨p, hp, nodup_ix hN e3 e1⟩)
          · exact e' (List.mem_of_getElem? e1)
        rcases r with rfl | ⟨rfl, rfl⟩
        · rcases hk' with rfl | rfl | rfl
          · exact absurd (.inl rfl) no
          · exact absurd (.inr rfl) no
          · exact ⟨e, .inr hk0⟩
        · exact ⟨e, .inl hk0⟩
      have e3 : Vis cenv.scope y := e3
      rcases e3 with e3 | e3 | e3
      · exact key _ e3 (.inl rfl)
      · exact key _ e3 (.inr (.inl rfl))
      · exact key _ e3 (.inr (.inr rfl))
    obtain ⟨m, hn, hl⟩ := I.loc
    have hvis : Vis X.env.scope y := (ok.free _ (PySem.mem_of_lookup hfr.1) rfl).elim (fun k => .inr (.inl k)) (fun k => .inr (.inr k))
    obtain ⟨w, r, q⟩ := hl i y av e1 e2 hvis
    refine ⟨w, r, .inr ⟨hfr.2, ?_⟩⟩
    obtain ⟨c, h1, h2⟩ := look hfr.1
    rcases q with ⟨k, _⟩ | ⟨_, c', e', z⟩
    · have k : X.env.scope.names.lookup y = some .local := k
      rcases ok.free _ (PySem.mem_of_lookup hfr.1) rfl with k' | k' <;> rw [show X.env.scope.names.lookup y = _ from k'] at k <;> cases k
    · rw [h2] at e'; cases e'
      exact ⟨c, h1, z.keeps kp⟩
  · have e : cenv.cells.lookup y = some c := e
    rcases mem e with ⟨h1, _⟩ | ⟨_, z⟩
    · obtain ⟨w, z⟩ := I.cell y c h1
      exact ⟨w, z.keeps kp⟩
    · exact ⟨_, z⟩
  · show H cenv.locals = none
    rw [hL]; exact I.hok.fresh (Nat.le_refl _)
  · have e : cenv.cells.lookup y = some c := e
    rcases mem e with ⟨h1, _⟩ | ⟨h1, _⟩
    · exact I.freeC y c h1
    · exact I.hok.fresh (Nat.le_of_succ_le h1)
  · exact absurd (show p ∈ ([] : List (Addr × Obj)) ++ [] from hp) (by simp)
theorem app_ok {E : Value → Shared → Prop} {D : Addr} {xs : List V} {y : V} {v : Value} {Q : Value → Shared → Prop} (I : Inv X pins σ H s) (hD : H D = some (.lst xs)) (hz : xs.length < sizeLine) (r : RelV y v)
    (h : ∀ s', Inv X pins σ (upd H D (.lst (xs ++ [y]))) s' → Q .none s') : wpAny (model X.prog X.w) X.A (call (.builtin "list.append") [.ref D, v]) Q E s := by
  obtain ⟨hz', its, n, ri, e⟩ := I.hok D _ hD
  have hl := ri.length
  refine append_at (hsz := by rw [List.size_toArray]; omega) e fun h' sb ho' => ?_
  refine h { s with heap := h' } (I.write (t' := s.toks) (by rw [hD]; trivial) (.inl rfl) (fun b u hb q => (sb.2 b hb).trans q) ⟨_, ho'⟩ ⟨by rw [List.length_append]; exact hz, its ++ [v], n + 1, ri.append (.cons r .nil), ?_⟩)
  rw [ho']
  simp
def PTs (X : Cx) (ifs : List Expr) (t : TT) : Prop :=
  ∀ (pins : List (Addr × Obj)) (s : Shared) (σ : St) (H : Hp) (Q : Bool → Hp → Prop), Inv X pins σ H s → t σ H Q →
    wpAny (model X.prog X.w) X.A (forIn ifs true fun c r => if r = true then do let ok ← isTrue c X.env (eval c X.env); pure (ForInStep.yield ok) else pure (ForInStep.yield r)) (TP X pins σ Q) X.xe s
def tYes : TT := fun _ H Q => Q true H
theorem pts_nil : PTs X [] tYes := fun _ _ _ H _ I h => wpAny_tests_nil ⟨H, I, h⟩
end
theorem thnF {α : Type} {t : Sem α} {Q Q' : α → Shared → Prop} {M : Model} {A : Around} {E : Value → Shared → Prop} {s : Shared} (h : wpAny M A t Q (fun _ _ => False) s) (hQ : ∀ a s, Q a s → Q' a s) : wpAny M A t Q' E s := wpAny_mono h hQ fun _ _ z => False.elim z
theorem compLoop_any {prog : Program} {w : World} {A : Around} {R : Result → Shared → Prop} {s : Shared} {elt target iter : Expr} {ifs : List Expr} {scope : Scope} {pos : Pos} {it acc : Value} {env : Env} (I : Nat → Shared → Prop)
    (turn : ∀ n s, I n s → wpAny (model prog w) A (pyNext it) (fun r s₁ => match r with
      | none => R (.ok .next) s₁
      | some v => wpAny (model prog w) A (letOwnedTupleGo target it v) (fun _ s₁' => wpAny (model prog w) A (assign target env v) (fun _ s₂ =>
          wpAny (model prog w) A (forIn ifs true fun c r => if r = true then do let ok ← isTrue c env (eval c env); pure (ForInStep.yield ok) else pure (ForInStep.yield r)) (fun ok s₃ =>
            if ok = true then wpAny (model prog w) A (eval elt env) (fun x s₄ =>
              wpAny (model prog w) A (call (.builtin "list.append") [acc, x]) (fun _ s₅ => ∃ m, m < n ∧ I m s₅) (notedBy (model prog w) A env fun e s' => R (.error e) s') s₄) (notedBy (model prog w) A env fun e s' => R (.error e) s') s₃
            else ∃ m, m < n ∧ I m s₃) (notedBy (model prog w) A env fun e s' => R (.error e) s') s₂) (notedBy (model prog w) A env fun e s' => R (.error e) s') s₁') (notedBy (model prog w) A env fun e s' => R (.error e) s') s₁) (notedBy (model prog w) A env fun e s' => R (.error e) s') s)
    (n : Nat) (h : I n s) :
    codeAny (model prog w) A (.compLoop (.ListComp elt [⟨target, iter, ifs, 0⟩] scope pos) 0 it acc env) R s := by
  refine codeAny_loop rfl I (fun n s hI => ?_) n h
  show wpAny _ A ((compTurn (.ListComp elt [⟨target, iter, ifs, 0⟩] scope pos) 0 it acc env).onRaise (fun x => do noteFrame x env; theTreesLotGoes x)) _ _ s
  refine wpAny_noted ?_
  rw [compTurn_list]
  refine wpAny_bind (wpAny_standAt (wpAny_bind (wpAny_mono (turn n s hI) (fun r s₁ h₁ => ?_) fun _ _ h' => h')))
  cases r with
  | none => exact wpAny_pure h₁
  | some v =>
    refine wpAny_bind (wpAny_mono h₁ (fun _ s₁' h₁' => ?_) fun _ _ h' => h')
    refine wpAny_bind (wpAny_mono h₁' (fun _ s₂ h₂ => wpAny_bind (wpAny_mono h₂ (fun ok s₃ h₃ => ?_) fun _ _ h' => h')) fun _ _ h' => h')
    cases ok with
    | false => exact wpAny_pure ⟨rfl, h₃⟩
    | true =>
      exact wpAny_bind (wpAny_bind (wpAny_mono h₃ (fun x s₄ h₄ => wpAny_bind (wpAny_mono h₄ (fun _ s₅ h₅ => wpAny_pure (wpAny_pure ⟨rfl, h₅⟩)) fun _ _ h' => h')) fun _ _ h' => h'))
section
variable {X : Cx}
def tLc (wi : TI) (g : TG) (tt : TT) (te : TE) (vs : List Nat) : TE := fun σ H Q => wi σ H fun J H1 => ∀ D, H1 D = none → ∃ W : Nat → Nat → Hp → Prop, (∃ m, W 0 m (upd H1 D (.lst []))) ∧ ∀ i m H, W i m H →
  (J.stop i H ∧ Q (.ref D) H) ∨ (J.go i H ∧ ∃ Nx : Hp → Prop, (∀ H', Nx H' → ∃ m', m' < m ∧ W (i + 1) m' H') ∧ ∀ x H', J.yld i H x H' → g x (wipe σ vs) H' fun σ2 H2 => wipe σ2 vs = wipe σ vs ∧ tt σ2 H2 fun b H3 =>
    if b = true then te σ2 H3 fun y H4 => ∃ acc, H4 D = some (.lst acc) ∧ acc.length < sizeLine ∧ Nx (upd H4 D (.lst (acc ++ [y]))) else Nx H3)
theorem lc_core {pins : List (Addr × Obj)} {s : Shared} {σ : St} {H : Hp} {Q : VK} {elt tg iter : Expr} {ifs : List Expr} {scope : Scope} {own : List (Str × Nat)} {pos pos' : Pos} {wi : TI} {g : TG} {tt : TT} {te : TE} {use : Option (Value → Sem Unit)} {Qf : Value → Shared → Prop}
    (hc : X.calm = true) (hN : X.N.Nodup) (I : Inv X pins σ H s) (hi : PI X tg iter wi) (ok : BlkOk X.N X.env.scope scope own)
    (hg : ∀ (s : Shared) (H : Hp) (C : Addr) (cl : List (Str × Addr)) (fp : List Addr), PG (X.blk s H scope (compEnvC scope cl C X.env) fp) tg g) (ht : ∀ (s : Shared) (H : Hp) (C : Addr) (cl : List (Str × Addr)) (fp : List Addr), PTs (X.blk s H scope (compEnvC scope cl C X.env) fp) ifs tt)
    (he : ∀ (s : Shared) (H : Hp) (C : Addr) (cl : List (Str × Addr)) (fp : List Addr), PE (X.blk s H scope (compEnvC scope cl C X.env) fp) elt te) (hs : ∀ x, foldedSetIterable iter X.env x = pure x)
    (h : tLc wi g tt te (own.map (·.2)) σ H Q)
    (hRR : ∀ D C s' m H', Inv X pins σ H' s' → Q (.ref D) H' → s'.heap.Ns C m → FpOk X pins H' C → compPost (model X.prog X.w) X.A X.xe use Qf (.ref D) C (.ok .next) s') :
    wpAny (model X.prog X.w) X.A (comprehension (.ListComp elt [⟨tg, iter, ifs, 0⟩] scope pos) scope X.env pos' (newList []) false (eval iter X.env) use) Qf X.xe s := by
  have hfree : ∀ y ∈ scope.names, y.2 = .free → ∃ c, X.env.cells.lookup y.1 = some c := fun y hy e => by
    rcases ok.free y hy e with k | k
    · exact I.ok.has _ (.inl k)
    · exact I.ok.has _ (.inr k)
  refine wpAny_comprehension_free (use := use) rfl hs (closure_ok hfree) ok.kind (fun y hy e => by rw [ok.uniq y hy, e])
    (thn (hi pins s σ H _ I h) fun xv s1 hx => thn hx fun itv s2 h2 => ?_)
  obtain ⟨it, fp, tn, J, H2, e, I2, T, st2, f2, q⟩ := h2
  subst e
  refine wpAny_newObj_type (newEnv_comp ?_) (by show 0 ≤ sizeLine; decide)
  generalize hD : s2.heap.objs.size = D
  have hDn : H2 D = none := I2.hok.fresh (Nat.le_of_eq hD)
  obtain ⟨W, ⟨m0, w0⟩, turn⟩ := q D hDn
  generalize hs3 : ({ s2 with heap := s2.heap.push { cls := .type "list", data := .seq ([] : List Value).toArray } } : Shared) = s3
  have I3 : Inv X pins σ (upd H2 D (.lst [])) s3 := by
    rw [← hs3]
    refine I2.laid (t' := s2.toks) (fun b o e => Heap.get?_push_of_some _ e) (Nat.le_of_eq hD) ⟨Nat.zero_le _, [], 0, .nil, ?_⟩
    rw [← hD]
    exact Heap.get?_push_size _ rfl
  have h3 : s3.heap = s2.heap.push { cls := .type "list", data := .seq ([] : List Value).toArray } := by rw [← hs3]
  have sz : ∀ b ∈ fp, b < s2.heap.objs.size := fun b hb => by
    obtain ⟨o, e, _⟩ := T.obj _ _ st2 b hb
    exact Heap.lt_size e
  have f3 : ∀ b ∈ fp, FpOk X pins (upd H2 D (.lst [])) b ∧ b < s3.heap.objs.size := fun b hb => by
    have hlt := sz b hb
    refine ⟨⟨?_, (f2 b hb).2⟩, by rw [h3, Heap.size_push]; exact Nat.lt_succ_of_lt hlt⟩
    rw [upd_ne (by rw [← hD]; exact Nat.ne_of_lt hlt)]
    exact (f2 b hb).1
  have st3 : tn 0 s3.heap := T.keep _ _ _ st2 fun b _ o e => by rw [h3]; exact Heap.get?_push_of_some _ e
  have I4 := block_start I3 ok hN f3
  have pg := hg s3 (upd H2 D (.lst [])) s3.heap.objs.size (cellsFrom (s3.heap.objs.size + 1) scope.names (cloFrom X.env.cells scope.names [])) fp
  have pt := ht s3 (upd H2 D (.lst [])) s3.heap.objs.size (cellsFrom (s3.heap.objs.size + 1) scope.names (cloFrom X.env.cells scope.names [])) fp
  have pe := he s3 (upd H2 D (.lst [])) s3.heap.objs.size (cellsFrom (s3.heap.objs.size + 1) scope.names (cloFrom X.env.cells scope.names [])) fp
  show codeAny _ _ (.compStart (.ListComp elt [⟨tg, iter, ifs, 0⟩] scope pos) 0 (.ref it) (.ref D) (compEnvC scope (cellsFrom (s3.heap.objs.size + 1) scope.names (cloFrom X.env.cells scope.names [])) s3.heap.objs.size X.env)) (compPost (model X.prog X.w) X.A X.xe use Qf (.ref D) s3.heap.objs.size) { s3 with heap := pushCells (s3.heap.push { cls := .type "dict", data := .dict #[] }) scope.names }
  have nfp : ∀ b ∈ fp, (upd H2 D (.lst [])) b = none := fun b hb => (f3 b hb).1.1
  generalize hce : compEnvC scope (cellsFrom (s3.heap.objs.size + 1) scope.names (cloFrom X.env.cells scope.names [])) s3.heap.objs.size X.env = ce at I4 pg pt pe ⊢
  have cL : ce.locals = s3.heap.objs.size := by subst hce; rfl
  generalize hH3 : upd H2 D (.lst []) = H3 at I3 I4 pg pt pe w0 nfp f3
  generalize hs4 : ({ s3 with heap := pushCells (s3.heap.push { cls := .type "dict", data := .dict #[] }) scope.names } : Shared) = s4 at I4 ⊢
  have st4 : tn 0 s4.heap := T.keep _ _ _ st3 fun b _ o e => by rw [← hs4]; exact pushCells_keeps _ _ _ _ (Heap.get?_push_of_some _ e)
  have stat : ∀ {σ' : St} {H' : Hp} {s' : Shared}, Inv (X.blk s3 H3 scope ce fp) [] σ' H' s' → (∀ b ∈ fp, H' b = none) → ∀ b ∈ fp, FpOk (X.blk s3 H3 scope ce fp) [] H' b := fun {σ' H' s'} I' hn b hb =>
    ⟨hn b hb, (I'.ok.exf b hb).1, I'.ok.exfs b hb, .inl hb, fun x c e => (I'.ok.exf b hb).2 x c e, fun p hp => absurd (show p ∈ ([] : List (Addr × Obj)) ++ [] from hp) (by simp)⟩
  have loop : codeAny (model X.prog X.w) X.A (.compLoop (.ListComp elt [⟨tg, iter, ifs, 0⟩] scope pos) 0 (.ref it) (.ref D) ce) (compPost (model X.prog X.w) X.A X.xe use Qf (.ref D) s3.heap.objs.size) s4 := by
    refine compLoop_any (fun n s' => ∃ i H', Inv (X.blk s3 H3 scope ce fp) [] (wipe σ (own.map (·.2))) H' s' ∧ tn i s'.heap ∧ (∀ b ∈ fp, H' b = none) ∧ W i n H') ?_ m0 ⟨0, H3, I4, st4, nfp, w0⟩
    rintro n s5 ⟨i, H5, I5, st5, n5, w5⟩
    rcases turn i n H5 w5 with ⟨stop, qq⟩ | ⟨go, Nx, hNx, step⟩
    · have td := T.done (X.blk s3 H3 scope ce fp) rfl rfl rfl hc i [] s5 _ H5 (fun _ _ => False) I5 (stat I5 n5) st5 stop
      refine thnF td fun r s6 ⟨hr, I6⟩ => ?_
      subst hr
      have I7 : Inv X pins σ H5 s6 := I3.call' (ch := fp) I6.os I6.base I6.hok I6.bare fun b hb => ⟨(f3 b hb).1.2.2.2.1, (f3 b hb).1.2.1, (f3 b hb).1.2.2.2.2.1, (f3 b hb).1.2.2.2.2.2⟩
      have nC : H5 s3.heap.objs.size = none := by
        have z : H5 ce.locals = none := I6.free
        rw [cL] at z
        exact z
      obtain ⟨m, hn, _⟩ := I6.loc
      have hn : s6.heap.Ns ce.locals m := hn
      rw [cL] at hn
      exact hRR D s3.heap.objs.size s6 m H5 I7 qq hn (I3.fpOk (Nat.le_refl _) nC)
    · have ti := T.item (X.blk s3 H3 scope ce fp) rfl rfl rfl hc i [] s5 _ H5 (fun _ _ => False) I5 (stat I5 n5) st5 go
      refine thnF ti fun r s6 ⟨u, hr, h6⟩ => ?_
      subst hr
      refine thnF h6 fun _ s7 ⟨x, H7, I7, r7, y7, st7, n7⟩ => ?_
      have I7' := I7.pinned (stat I7 n7) (T.obj _ _ st7)
      refine thnF (pg _ s7 _ H7 x u _ I7' r7 (step x H7 y7)) fun _ s8 ⟨σ8, H8, I8, hw8, q8⟩ => ?_
      refine thnF (pt _ s8 σ8 H8 _ I8 q8) fun b s9 ⟨H9, I9, q9⟩ => ?_
      have fin : ∀ {s' : Shared} {H' : Hp}, Inv (X.blk s3 H3 scope ce fp) ([] ++ pinsAt fp s7.heap) σ8 H' s' → Nx H' → ∃ m, m < n ∧ ∃ i H', Inv (X.blk s3 H3 scope ce fp) [] (wipe σ (own.map (·.2))) H' s' ∧ tn i s'.heap ∧ (∀ b ∈ fp, H' b = none) ∧ W i m H' := fun {s' H'} I' nx => by
        obtain ⟨m', hm, w'⟩ := hNx H' nx
        have pin' : ∀ b ∈ fp, ∀ o, s7.heap.get? b = some o → s'.heap.get? b = some o ∧ H' b = none := fun b hb o e =>
          let z := I'.pin (b, o) (List.mem_append_right _ (List.mem_append_right _ (mem_pinsAt hb e)))
          ⟨z.1, z.2.1⟩
        have hl : (wipe σ (own.map (·.2))).length = σ8.length := by rw [← hw8, wipe_length]
        refine ⟨m', hm, i + 1, H', (I'.unpinned (pins := [])).weak hl (fun j v e => ?_), T.keep _ _ _ st7 fun b hb o e => (pin' b hb o e).1, fun b hb => ?_, w'⟩
        · rw [← hw8] at e
          exact (wipe_some e).1
        · obtain ⟨o, e, _⟩ := T.obj _ _ st7 b hb
          exact (pin' b hb o e).2
      cases b with
      | false =>
        simp only [Bool.false_eq_true, if_false] at q9 ⊢
        exact fin I9 q9
      | true =>
        simp only [if_true] at q9 ⊢
        refine thnF (pe _ s9 σ8 H9 _ I9 q9) fun z s10 ⟨yv, H10, I10, r10, acc, hD10, hz10, nx⟩ => ?_
        exact app_ok (X := X.blk s3 H3 scope ce fp) I10 hD10 hz10 r10 fun s11 I11 => fin I11 nx
  exact codeAny_compStart_list loop (T.self X.A 0 _ _ _ st4 loop)
theorem pe_lc {elt tg iter : Expr} {ifs : List Expr} {scope : Scope} {own : List (Str × Nat)} {pos : Pos} {wi : TI} {g : TG} {tt : TT} {te : TE} (hc : X.calm = true) (hN : X.N.Nodup) (hi : PI X tg iter wi) (ok : BlkOk X.N X.env.scope scope own)
    (hg : ∀ (s : Shared) (H : Hp) (C : Addr) (cl : List (Str × Addr)) (fp : List Addr), PG (X.blk s H scope (compEnvC scope cl C X.env) fp) tg g) (ht : ∀ (s : Shared) (H : Hp) (C : Addr) (cl : List (Str × Addr)) (fp : List Addr), PTs (X.blk s H scope (compEnvC scope cl C X.env) fp) ifs tt)
    (he : ∀ (s : Shared) (H : Hp) (C : Addr) (cl : List (Str × Addr)) (fp : List Addr), PE (X.blk s H scope (compEnvC scope cl C X.env) fp) elt te) (hs : ∀ x, foldedSetIterable iter X.env x = pure x := by intro _; rfl) :
    PE X (.ListComp elt [⟨tg, iter, ifs, 0⟩] scope pos) (tLc wi g tt te (own.map (·.2))) := by
  intro pins s σ H Q I h
  rw [eval_ListComp]
  refine lc_core hc hN I hi ok hg ht he hs h fun D C s' m H' I' q hn f => ⟨m, hn, fun h'' sb => ?_⟩
  obtain ⟨f0, f1, f2, f3, f4, f5⟩ := f
  exact ⟨.ref D, H', I'.turned (t' := s'.toks) (fun b o hb e => (sb.2 b hb).trans e) f0 f1 f3 f4 f5, rfl, q⟩
end
def blkC (N : List Str) (sc scope : Scope) (own : List (Str × Nat)) : Bool :=
  (match scope.kind with | .function => true | _ => false) && (scope.names.all fun y => decide (scope.names.lookup y.1 = some y.2)) && (own.all fun p => decide (N[p.2]? = some p.1)) &&
    (scope.names.all fun y => match y.2 with
      | .free => (match sc.names.lookup y.1 with | some .cell => true | some .free => true | _ => false)
      | .local => decide (y.1 ∈ own.map (·.1)) || decide (y.1 ∉ N)
      | .cell => decide (y.1 ∈ own.map (·.1)) || decide (y.1 ∉ N)
      | _ => true)
theorem blkOk_by {N : List Str} {sc scope : Scope} {own : List (Str × Nat)} (h : blkC N sc scope own = true) : BlkOk N sc scope own := by
  unfold blkC at h
  simp only [Bool.and_eq_true, List.all_eq_true, decide_eq_true_eq] at h
  obtain ⟨⟨⟨h1, h2⟩, h3⟩, h4⟩ := h
  refine ⟨?_, h2, h3, fun y hy e => ?_, fun y hy e => ?_⟩
  · split at h1
    · assumption
    · cases h1
  · have q := h4 y hy
    simp only [e] at q
    split at q <;> first | exact .inl (by assumption) | exact .inr (by assumption) | cases q
  · have q := h4 y hy
    rcases e with e | e <;> (simp only [e, Bool.or_eq_true, decide_eq_true_eq] at q; exact q)
section
variable {prog : Program} {w : World} {A : Around} {R : Result → Shared → Prop} {s : Shared} {elt t0 i0 t1 i1 : Expr} {ifs0 ifs1 : List Expr} {scope : Scope} {pos : Pos} {it acc : Value} {env : Env}
end
section
variable {X : Cx}
end
section
variable {κ : Type} [DecidableEq κ]
end
section
variable {P : Program} {w : World} {H : Hp} {h : Heap} {a : Addr}
end
section
variable {X : Cx} {pins : List (Addr × Obj)} {σ : St} {H : Hp} {s : Shared} {a : Addr} {y v : V} {u r : Value} {o : Option V} {A : Around} {E : Value → Shared → Prop}
end
section
variable {X : Cx} {pins : List (Addr × Obj)} {σ : St} {H : Hp} {s : Shared} {a : Addr} {kvs : List (Key × V)} {k : Key} {u : Value} {A : Around} {E : Value → Shared → Prop}
end
def NoSl (i : Expr) : Prop := ∀ ov iv, subscripted i false ov iv = operate [ov, iv] (getItem ov iv)
theorem subD_of {prog : Program} {w : World} {A : Around} {E : Value → Shared → Prop} {s : Shared} {env : Env} {value slice : Expr} {pos : Pos} {T id : String} {Q : Value → Shared → Prop}
    (hl : typeLookup (.type T) "__getitem__" = pure (some (.builtin id))) (hs : NoSl slice)
    (h : wpAny (model prog w) A (eval value env) (fun o s₁ => wpAny (model prog w) A (eval slice env) (fun i s₂ => s₂.TypeIs o T ∧ wpAny (model prog w) A (getItem o i) Q E s₂) E s₁) E s) :
    wpAny (model prog w) A (eval (.Subscript value slice pos) env) Q E s := by
  refine Subscript_ (wpAny_mono h (fun o s₁ h₁ => wpAny_mono h₁ (fun i s₂ h₂ => ?_) fun _ _ x => x) fun _ _ x => x)
  obtain ⟨hT, h₂⟩ := h₂
  unfold subscriptTail
  refine wpAny_bind ?_
  rw [getitemInPython_of_ne hT.not_modules]
  refine wpAny_bind (wpAny_specialOf hT hl ?_)
  have fin : wpAny (model prog w) A (subscripted slice false o i) (fun r s₃ => wpAny (model prog w) A (letTemporaryGo value o r >>= fun _ => pure r) Q E s₃) E s₂ := by
    rw [hs o i]
    exact wpAny_operating (wpAny_mono h₂ (fun r s₃ h₃ => wpAny_bind (wpAny_letTemporaryGo (wpAny_pure h₃))) fun _ _ x => x)
  first
    | exact wpAny_pure (wpAny_bind fin)
    | exact wpAny_bind (wpAny_pure (wpAny_bind fin))
    | exact wpAny_bind fin
section
variable {X : Cx} {o i e value : Expr} {pos pos' tpos : Pos} {td ty tv : TE}
end
section
variable {X : Cx} {pos : Pos}
end
section
variable {X : Cx} {pins : List (Addr × Obj)} {σ : St} {H : Hp} {s : Shared} {a : Addr} {y d : V} {u r : Value} {o : Option V} {A : Around} {E : Value → Shared → Prop}
end
section
variable {X : Cx} {o e f : Expr} {apos cpos : Pos} {td ty tx : TE}
end
section
variable {X : Cx} {pins : List (Addr × Obj)} {σ : St} {H : Hp} {s : Shared} {a : Addr} {kvs : List (Key × V)} {A : Around} {E : Value → Shared → Prop}
end
section
variable {X : Cx} {pins : List (Addr × Obj)} {σ : St} {H : Hp} {s : Shared} {a : Addr} {y : V} {u : Value} {A : Around} {E : Value → Shared → Prop}
end
section
variable {prog : Program} {w : World} {A : Around} {E : Value → Shared → Prop}
end
section
variable {X : Cx}
end
theorem boot_reversed5 : bootBuiltins "reversed" = some (.type "reversed") := by decide +kernel
section
variable {X : Cx} {pins : List (Addr × Obj)} {σ : St} {H : Hp} {s : Shared} {h' : Heap}
theorem Inv.turnedL {t' : Nat} {ch : List Addr} (I : Inv X pins σ H s) (k : ∀ b o, b ∉ ch → s.heap.get? b = some o → h'.get? b = some o) (hf : ∀ b ∈ ch, FpOk X pins H b) : Inv X pins σ H { s with heap := h', toks := t' } := by
  have nit : ∀ b u, H b = some u → b ∉ ch := fun b u e z => by
    have q := (hf b z).1
    rw [q] at e; cases e
  refine I.step (g' := s.gens) (d' := s.drawn) (ch := ch) (fun b hb => ⟨(hf b hb).2.2.2.1, (hf b hb).2.1, (hf b hb).2.2.2.2.1, (hf b hb).2.2.2.2.2⟩) (fun b o _ _ hc e _ => k b o hc e) (fun b o _ _ hc e _ => ⟨o.slots, k b o hc e⟩)
    (fun _ _ _ _ n => n) (fun b o hc e => ⟨o, k b o hc e⟩) (fun _ _ e => e) (fun _ _ _ e => e) (fun b ps e => ⟨#[], by rw [e]; simp⟩) (fun m hm => ?_) (fun b u e => ?_) I.bare
  · obtain ⟨o, es, ep, ho, r⟩ := hm
    exact ⟨o, es, ep, k _ o (fun z => (hf _ z).2.1 rfl) ho, r⟩
  · refine (I.hok b u e).stay (fun c v hc q => k c v ?_ q) (fun _ q => q) fun _ _ q => q
    rcases hc with z | z
    · rw [z]; exact nit b u e
    · exact nit c _ z
theorem Inv.turnedNew {t' : Nat} {ch : List Addr} {T : Addr} {ob : HO} (I : Inv X pins σ H s) (k : ∀ b o, b ∉ ch → s.heap.get? b = some o → h'.get? b = some o) (hf : ∀ b ∈ ch, FpOk X pins H b) (hT : s.heap.objs.size ≤ T)
    (new : ObjOk X.prog X.w (upd H T ob) h' T ob) : Inv X pins σ (upd H T ob) { s with heap := h', toks := t' } := by
  have hn : H T = none := I.hok.fresh hT
  have nit : ∀ b u, H b = some u → b ∉ ch := fun b u e z => by
    have q := (hf b z).1
    rw [q] at e; cases e
  refine I.step (g' := s.gens) (d' := s.drawn) (ch := ch) (fun b hb => ⟨(hf b hb).2.2.2.1, (hf b hb).2.1, (hf b hb).2.2.2.2.1, (hf b hb).2.2.2.2.2⟩) (fun b o _ _ hc e _ => k b o hc e) (fun b o _ _ hc e _ => ⟨o.slots, k b o hc e⟩)
    (fun b o _ e n => ?_) (fun b o hc e => ⟨o, k b o hc e⟩) (fun b xs e => ?_) (fun b o u e => ?_) (fun b ps e => ⟨#[], ?_⟩) (fun m hm => ?_) (fun b u e => ?_) I.bare
  · rw [upd_ne (Nat.ne_of_lt (Nat.lt_of_lt_of_le (Heap.lt_size e) hT))]; exact n
  · rw [upd_ne (ne_of_none e hn)]; exact e
  · rw [upd_ne (ne_of_none e hn)]; exact e
  · rw [upd_ne (ne_of_none e hn), e]; simp
  · obtain ⟨o, es, ep, ho, r⟩ := hm
    exact ⟨o, es, ep, k _ o (fun z => (hf _ z).2.1 rfl) ho, r⟩
  · by_cases hb : b = T
    · subst hb
      rw [upd_same] at e
      cases e
      exact new
    · rw [upd_ne hb] at e
      refine (I.hok b u e).stay (fun c v hc q => k c v ?_ q) (fun c q => by rw [upd_ne (ne_of_none q hn)]; exact q) fun c xs q => by rw [upd_ne (ne_of_none q hn)]; exact q
      rcases hc with z | z
      · rw [z]; exact nit b u e
      · exact nit c _ z
end
section
variable {X : Cx}
theorem pi_one {tg : Expr} {pins : List (Addr × Obj)} {σ : St} {H : Hp} {s : Shared} {R : It → Hp → Prop} {J : It} {tn : Nat → Heap → Prop} {tk : Nat} (I : Inv X pins σ H s) (o : Obj)
    (T : Turn X.prog X.w X.K tg J [s.heap.objs.size] s.heap.objs.size tn) (st : tn 0 (s.heap.push o)) (q : R J H) : PIE X pins σ tg R (.ref s.heap.objs.size) { s with heap := s.heap.push o, toks := tk } := by
  refine ⟨s.heap.objs.size, [s.heap.objs.size], tn, J, H, rfl, I.kept fun b ob e => Heap.get?_push_of_some _ e, T, st, fun b hb => ?_, q⟩
  have e : b = s.heap.objs.size := by simpa using hb
  subst e
  exact I.fpOk (Nat.le_refl _) (I.hok.fresh (Nat.le_refl _))
end
def Itc (lo c : Int) (n : Nat) : It := ⟨fun i _ => i < n, fun i H x H' => H' = H ∧ x = .int (lo + (i : Nat) * c), fun i _ => n ≤ i⟩
theorem turn_rangeC {P : Program} {w : World} {K : PySem.W.Frag} {tg : Expr} (it : Addr) (lo c : Int) (n : Nat) : Turn P w K tg (Itc lo c n) [it] it (fun i h => IsRangeIter h it (lo + (i : Nat) * c) ((n : Int) - (i : Nat)) c) where
  mem := by simp
  obj := fun i h st b hb => by
    have e : b = it := by simpa using hb
    subst e
    exact ⟨_, st, fun v z => nomatch z⟩
  keep := fun i h h' st k => k it (by simp) _ st
  item := by
    intro X hP hw hK hc i pins s σ H E I hf st hg
    subst hP hw hK
    obtain ⟨f0, f1, f2, f3, f4, f5⟩ := hf it (by simp)
    have W := Walks.range (prog := X.prog) (w := X.w) (I.ok.hd hc) it lo c n
    refine W.item i s _ _ hg st fun v h' tk hv st' kk => ?_
    obtain ⟨t, rfl⟩ := hv
    have I1 : Inv X pins σ H { s with heap := h', toks := tk } := I.turned (fun b o hb e => kk b o (by simpa using hb) e) f0 f1 f3 f4 f5
    exact ⟨_, rfl, go_of (s := { s with heap := h', toks := tk }) (n := "range_iterator") st' rfl rfl (by decide) ⟨.int (lo + (i : Nat) * c), H, I1, ⟨t, rfl⟩, ⟨rfl, rfl⟩, st', fun b hb => (hf b hb).1⟩⟩
  done := by
    intro X hP hw hK hc i pins s σ H E I hf st hg
    subst hP hw hK
    obtain ⟨f0, f1, f2, f3, f4, f5⟩ := hf it (by simp)
    exact wpAny_pyNext_range_end (I.ok.hd hc) st (by have : n ≤ i := hg; omega) fun h' eb => ⟨rfl, I.turned (t' := s.toks) (fun b o hb e => eb b o hb e) f0 f1 f3 f4 f5⟩
  self := fun A i s Q E st h => wpAny_pyIter_rangeiter st h
def RgC (i j c : Int) (n : Nat) : Prop := c ≠ 0 ∧ c.natAbs < 1073741824 ∧ Builtin.Range.small i j c = true ∧ Builtin.Range.rangeSize i j c = n
theorem RgC.neg {i j : Int} (ha : -(2 ^ 62) ≤ i) (ha' : i < 2 ^ 62) (hb : -(2 ^ 62) ≤ j) (hb' : j < 2 ^ 62) : RgC i j (-1) (i - j).toNat :=
  ⟨by decide, by decide, PySem.W.small_down ha ha' hb hb', PySem.W.rangeSize_downNat i j⟩
def iRng3 (ta : TA) : TI := fun σ H R => ta σ H fun vs H1 => ∃ (i j c : Int) (n : Nat), vs = [.int i, .int j, .int c] ∧ RgC i j c n ∧ R (Itc i c n) H1
section
variable {X : Cx} {tg : Expr}
theorem pi_range3 {a b c : Expr} {ta : TA} {p pos : Pos} (hg : Gl X "range") (hm : X.mg "range" = none) (ha : PA X [a, b, c] ta)
    (hs : starEach [a, b, c] X.env = (false, eval a X.env) :: starEach [b, c] X.env := by rfl) (hpl : (backTo pos (starEach [b, c] X.env)).any (·.1) = false := by rfl) :
    PI X tg (.Call (.Name "range" p) [a, b, c] [] pos) (iRng3 ta) := by
  intro pins s σ H R I h
  refine Call_ (ld_blt I hg hm boot_range (PyProof.Rows.callWith_type1 (thn (ha pos pins s σ H _ I h) fun us s1 ⟨vs, H1, I1, r1, q1⟩ => ?_) hs hpl))
  obtain ⟨i, j, k, n, e, ⟨c0, c1, c2, c3⟩, q⟩ := q1
  subst e
  cases r1 with
  | cons r rr =>
    cases rr with
    | cons r' rr =>
      cases rr with
      | cons r'' rr =>
        cases rr
        obtain ⟨t, rfl⟩ := r
        obtain ⟨t', rfl⟩ := r'
        obtain ⟨t'', rfl⟩ := r''
        refine call_range_3 c0 ?_ (.inl (PyProof.noPylong_small c1))
        refine wpAny_pyIter_range (IsRange.new ..) c2 ?_
        have I2 : Inv X pins σ H1 { s1 with heap := s1.heap.push { cls := .type "range", data := .fields #[.int i t, .int j t', .int k t''] } } := I1.kept (t' := s1.toks) fun b o e => Heap.get?_push_of_some _ e
        refine pi_one (tk := s1.toks) I2 _ (turn_rangeC _ i k n) ?_ q
        have e1 : i + ((0 : Nat) : Int) * k = i := by simp
        have e2 : (n : Int) - ((0 : Nat) : Int) = Builtin.Range.rangeSize i j k := by rw [c3]; simp
        show IsRangeIter _ _ (i + ((0 : Nat) : Int) * k) ((n : Int) - ((0 : Nat) : Int)) k
        rw [e1, e2]
        exact Heap.get?_push_size _ rfl
end
theorem for_rangeC {lo c : Int} {n : Nat} {g : TG} {tb : TS} {D : Ends} {σ : St} {H : Hp} (Pv : Nat → St → Hp → Prop) (h0 : Pv 0 σ H)
    (hs : ∀ i σ H, i < n → Pv i σ H → g (.int (lo + (i : Nat) * c)) σ H fun σ2 H2 => tb { D with nx := Pv (i + 1), ct := Pv (i + 1), bk := D.nx } σ2 H2) (hd : ∀ σ H, Pv n σ H → D.nx σ H) :
    ∃ W : Nat → Nat → St → Hp → Prop, (∃ m, W 0 m σ H) ∧ ∀ i m σ H, W i m σ H →
      ((Itc lo c n).stop i H ∧ D.nx σ H) ∨ ((Itc lo c n).go i H ∧ ∃ N : St → Hp → Prop, (∀ σ' H', N σ' H' → ∃ m', m' < m ∧ W (i + 1) m' σ' H') ∧ ∀ x H', (Itc lo c n).yld i H x H' → g x σ H' fun σ2 H2 => tb { D with nx := N, ct := N, bk := D.nx } σ2 H2) := by
  refine ⟨fun i m σ H => m = n - i ∧ i ≤ n ∧ Pv i σ H, ⟨n, by simp, Nat.zero_le _, h0⟩, ?_⟩
  rintro i m σ H ⟨rfl, hi, p⟩
  by_cases hlt : i < n
  · refine .inr ⟨hlt, Pv (i + 1), fun σ' H' p' => ⟨n - (i + 1), by omega, rfl, hlt, p'⟩, fun x H' y => ?_⟩
    obtain ⟨e, y⟩ := y
    subst e y
    exact hs i σ _ hlt p
  · have e : i = n := by omega
    subst e
    exact .inl ⟨Nat.le_refl _, hd σ H p⟩
def Itv (K : PySem.W.Frag) (a : Addr) (n : Nat) : It :=
  ⟨fun i H => i < n ∧ ∃ (xs : List V) (x : V), SqL K H a xs ∧ xs[n - 1 - i]? = some x, fun i H x H' => H' = H ∧ ∀ xs, SqL K H a xs → xs[n - 1 - i]? = some x, fun i _ => n ≤ i⟩
theorem turn_rev {P : Program} {w : World} {K : PySem.W.Frag} {tg : Expr} (a it : Addr) (n : Nat) : Turn P w K tg (Itv K a n) [it] it (fun i h => i ≤ n ∧ h.IsRevIter it a ((n : Int) - 1 - (i : Nat))) where
  mem := by simp
  obj := fun i h st b hb => by
    have e : b = it := by simpa using hb
    subst e
    obtain ⟨_, o, e, c, d⟩ := st
    exact ⟨o, e, fun v z => by rw [d] at z; cases z⟩
  keep := fun i h h' st k => ⟨st.1, st.2.at fun o e => k it (by simp) o e⟩
  item := by
    intro X hP hw hK hc i pins s σ H E I hf st hg
    subst hP hw hK
    obtain ⟨hin, xs, x, hq, hx⟩ := hg
    obtain ⟨its, rv, p, hz⟩ := I.list hq
    obtain ⟨u, hu, ru⟩ := rv.get hx
    obtain ⟨f0, f1, f2, f3, f4, f5⟩ := hf it (by simp)
    obtain ⟨_, hit⟩ := st
    have e1 : (n : Int) - 1 - ((i : Nat) : Int) = ((n - 1 - i : Nat) : Int) := by omega
    rw [e1] at hit
    refine wpAny_pyNext_rev_item hit p.isList (x := u) (by simpa using hu) fun h' st' sb => ?_
    have e2 : ((n - 1 - i : Nat) : Int) - 1 = (n : Int) - 1 - ((i + 1 : Nat) : Int) := by omega
    rw [e2] at st'
    have I1 : Inv X pins σ H { s with heap := h' } := I.turned (t' := s.toks) (fun b o hb e => (sb.2 b hb).trans e) f0 f1 f3 f4 f5
    obtain ⟨o, e, c, d⟩ := id st'
    exact ⟨u, rfl, go_of (s := { s with heap := h' }) e c d (by decide) ⟨x, H, I1, ru, ⟨rfl, fun ys hy => by rw [I.list_inj hy hq]; exact hx⟩, ⟨hin, st'⟩, fun b hb => (hf b hb).1⟩⟩
  done := by
    intro X hP hw hK hc i pins s σ H E I hf st hg
    subst hP hw hK
    obtain ⟨f0, f1, f2, f3, f4, f5⟩ := hf it (by simp)
    obtain ⟨hin, hit⟩ := st
    have hge : n ≤ i := hg
    have e1 : (n : Int) - 1 - ((i : Nat) : Int) = -1 := by omega
    rw [e1] at hit
    exact wpAny_pyNext_rev_end (I.ok.hd hc) hit fun h' eb => ⟨rfl, I.turned (t' := s.toks) (fun b o hb e => eb b o hb e) f0 f1 f3 f4 f5⟩
  self := fun A i s Q E st h => wpAny_pyIter_revIter st.2 h
def iRev (K : PySem.W.Frag) (ta : TA) : TI := fun σ H R => ta σ H fun vs H1 => ∃ (a : Addr) (xs : List V), vs = [.ref a] ∧ SqL K H1 a xs ∧ R (Itv K a xs.length) H1
section
variable {X : Cx} {tg : Expr}
theorem pi_reversed {e : Expr} {ta : TA} {p pos : Pos} (hg : Gl X "reversed") (hm : X.mg "reversed" = none) (ha : PA X [e] ta) (hs : starEach [e] X.env = [(false, eval e X.env)] := by rfl) : PI X tg (.Call (.Name "reversed" p) [e] [] pos) (iRev X.K ta) := by
  intro pins s σ H R I h
  refine Call_ (ld_blt I hg hm boot_reversed5 (PyProof.Rows.callWith_type1 (thn (ha pos pins s σ H _ I h) fun us s1 ⟨vs, H1, I1, r1, q1⟩ => ?_) hs rfl))
  obtain ⟨a, xs, e, hq, q⟩ := q1
  subst e
  cases r1 with
  | cons r rr =>
    cases rr
    cases r
    obtain ⟨its, rv, p', hz⟩ := I1.list hq
    have hl := rv.length
    have e1 : ((its.toArray.size : Nat) : Int) - 1 = (xs.length : Int) - 1 - ((0 : Nat) : Int) := by simp only [List.size_toArray]; omega
    refine call_reversed_list p'.isList (wpAny_pyIter_revIter (l := a) (i := ((its.toArray.size : Nat) : Int) - 1) ⟨_, Heap.get?_push_size _ rfl, rfl, rfl⟩ ?_)
    refine pi_one (tk := s1.toks) I1 _ (turn_rev a _ xs.length) ⟨Nat.zero_le _, ?_⟩ q
    rw [← e1]
    exact ⟨_, Heap.get?_push_size _ rfl, rfl, rfl⟩
end
def Its (x : Str) : It := ⟨fun i _ => i < x.cps.size, fun i H v H' => H' = H ∧ ∃ c, x.cps[i]? = some c ∧ v = .str ⟨#[c]⟩, fun i _ => x.cps.size ≤ i⟩
theorem turn_str {P : Program} {w : World} {K : PySem.W.Frag} {tg : Expr} (it : Addr) (x : Str) (t : Tok) (ty : String) (hty : ty = "str_ascii_iterator" ∨ ty = "str_iterator") :
    Turn P w K tg (Its x) [it] it (fun i h => h.IsStrIter it ty x t i) where
  mem := by simp
  obj := fun i h st b hb => by
    have e : b = it := by simpa using hb
    subst e
    obtain ⟨o, e, c, d⟩ := st
    exact ⟨o, e, fun v z => by rw [d] at z; cases z⟩
  keep := fun i h h' st k => let ⟨o, ho, r⟩ := st; ⟨o, k it (by simp) o ho, r⟩
  item := by
    intro X hP hw hK hc i pins s σ H E I hf st hg
    subst hP hw hK
    obtain ⟨f0, f1, f2, f3, f4, f5⟩ := hf it (by simp)
    have W : Walks X.prog X.w X.A it [it] [it] x.cps.size (SignAt x) (fun i h => h.IsStrIter it ty x t i) := by
      rcases hty with e | e
      · rw [e]; exact Walks.strAscii (I.ok.hd hc) it x t
      · rw [e]; exact Walks.strWide (I.ok.hd hc) it x t
    have hno : ["enumerate", "zip", "dict_itemiterator", "dict_reverseitemiterator", "odict_iterator", "itertools.zip_longest", "itertools.pairwise"].contains ty = false := by
      rcases hty with e | e
      · rw [e]; decide
      · rw [e]; decide
    refine W.item i s _ _ hg st fun v h' tk hv st' kk => ?_
    obtain ⟨c, u, hcx, rfl⟩ := hv
    have I1 : Inv X pins σ H { s with heap := h', toks := tk } := I.turned (fun b o hb e => kk b o (by simpa using hb) e) f0 f1 f3 f4 f5
    obtain ⟨oi, e, cc, dd⟩ := id st'
    exact ⟨_, rfl, go_of (s := { s with heap := h', toks := tk }) e cc dd hno ⟨.str ⟨#[c]⟩, H, I1, ⟨u, rfl⟩, ⟨rfl, c, hcx, rfl⟩, st', fun b hb => (hf b hb).1⟩⟩
  done := by
    intro X hP hw hK hc i pins s σ H E I hf st hg
    subst hP hw hK
    obtain ⟨f0, f1, f2, f3, f4, f5⟩ := hf it (by simp)
    have hx : x.cps[i]? = none := Array.getElem?_eq_none hg
    rcases hty with e | e
    · rw [e] at st
      exact wpAny_pyNext_ascii_end (I.ok.hd hc) st hx fun h' eb => ⟨rfl, I.turned (t' := s.toks) (fun b o hb e => eb b o hb e) f0 f1 f3 f4 f5⟩
    · rw [e] at st
      exact wpAny_pyNext_wide_end (I.ok.hd hc) st hx fun h' eb => ⟨rfl, I.turned (t' := s.toks) (fun b o hb e => eb b o hb e) f0 f1 f3 f4 f5⟩
  self := fun A i s Q E st h => by
    rcases hty with e | e
    · rw [e] at st; exact wpAny_pyIter_striter_ascii st h
    · rw [e] at st; exact wpAny_pyIter_striter_wide st h
def iStr (te : TE) : TI := fun σ H R => te σ H fun v H1 => ∃ x, v = .str x ∧ R (Its x) H1
theorem pi_str {X : Cx} {tg e : Expr} {te : TE} (he : PE X e te) : PI X tg e (iStr te) := by
  intro pins s σ H R I h
  refine thn (he pins s σ H _ I h) fun v s1 ⟨y, H1, I1, r1, x, ex, q⟩ => ?_
  subst ex
  obtain ⟨t, rfl⟩ := r1
  cases ha : x.cps.all (· < 128)
  · exact wpAny_pyIter_wide ha (pi_one (tk := s1.toks) I1 _ (turn_str _ x t "str_iterator" (.inr rfl)) ⟨_, Heap.get?_push_size _ rfl, rfl, rfl⟩ q)
  · exact wpAny_pyIter_ascii ha (pi_one (tk := s1.toks) I1 _ (turn_str _ x t "str_ascii_iterator" (.inl rfl)) ⟨_, Heap.get?_push_size _ rfl, rfl, rfl⟩ q)
section
variable {prog : Program} {w : World} {A : Around} {E : Value → Shared → Prop} {s : Shared}
end
section
variable {X : Cx} {pins : List (Addr × Obj)} {σ : St} {H : Hp} {s : Shared} {d : Addr} {o : Obj}
end
section
variable {P : Program} {w : World} {K : PySem.W.Frag} {tg : Expr} {d : Addr} {o : Obj} {es : Array DictEntry} {ep : Nat}
end
section
variable {X : Cx} {tg e : Expr} {td : TE} {apos cpos : Pos}
end
theorem boot_zip5 : bootBuiltins "zip" = some (.type "zip") := by decide +kernel
def Itz (K : PySem.W.Frag) (a b : Addr) : It :=
  ⟨fun i H => ∃ (xs ys : List V) (x y : V), SqL K H a xs ∧ SqL K H b ys ∧ xs[i]? = some x ∧ ys[i]? = some y,
    fun i H v H' => ∃ T x y, v = .ref T ∧ H T = none ∧ H' = upd H T (.tup [x, y]) ∧ (∀ xs, SqL K H a xs → xs[i]? = some x) ∧ ∀ ys, SqL K H b ys → ys[i]? = some y,
    fun i H => ∃ xs ys : List V, SqL K H a xs ∧ SqL K H b ys ∧ (xs.length ≤ i ∨ ys.length ≤ i)⟩
theorem turn_zip {P : Program} {w : World} {K : PySem.W.Frag} {elts : List Expr} {kk : Nat} {tpos : Pos} {a b z TI TO i1 i2 : Addr} (D : ZipApart z TI TO i1 i2 a b) :
    Turn P w K (.Tuple elts kk tpos) (Itz K a b) [z, TI, TO, i1, i2] z (fun i h => IsZip h z TI TO .none ∧ IsPair h TI (.ref i1) (.ref i2) ∧ (∃ x y, IsPair h TO x y) ∧ h.IsListIter i1 a i ∧ h.IsListIter i2 b i) where
  mem := by simp
  obj := fun i h st c hc => by
    obtain ⟨hz, hTI, ⟨x, y, hTO⟩, ⟨o1, e1, _, d1⟩, ⟨o2, e2, _, d2⟩⟩ := st
    have e' : c = z ∨ c = TI ∨ c = TO ∨ c = i1 ∨ c = i2 := by simpa using hc
    rcases e' with q | q | q | q | q
    · rw [q]; exact ⟨_, hz, fun v q => nomatch q⟩
    · rw [q]; exact ⟨_, hTI, fun v q => nomatch q⟩
    · rw [q]; exact ⟨_, hTO, fun v q => nomatch q⟩
    · rw [q]; exact ⟨o1, e1, fun v q => by rw [d1] at q; cases q⟩
    · rw [q]; exact ⟨o2, e2, fun v q => by rw [d2] at q; cases q⟩
  keep := fun i h h' st k => by
    obtain ⟨hz, hTI, ⟨x, y, hTO⟩, h1, h2⟩ := st
    exact ⟨k z (by simp) _ hz, k TI (by simp) _ hTI, ⟨x, y, k TO (by simp) _ hTO⟩, h1.at fun o q => k i1 (by simp) o q, h2.at fun o q => k i2 (by simp) o q⟩
  item := by
    intro X hP hw hK hc i pins s σ H E I hf st hg
    subst hP hw hK
    obtain ⟨hz, hTI, ⟨x0, y0, hTO⟩, h1, h2⟩ := st
    obtain ⟨xs, ys, x, y, hqx, hqy, hx, hy⟩ := hg
    obtain ⟨its, rv, p, _⟩ := I.list hqx
    obtain ⟨its2, rv2, p2, _⟩ := I.list hqy
    obtain ⟨u, hu, ru⟩ := rv.get hx
    obtain ⟨u2, hu2, ru2⟩ := rv2.get hy
    have hzl : z < s.heap.objs.size := Heap.lt_size hz
    refine wpAny_pyNext_zip_item D hz hTI hTO h1 h2 p.isList p2.isList (x := u) (y := u2) (by simpa using hu) (by simpa using hu2) fun h' z' TO' h1' h2' hT hsz hk => ?_
    refine ⟨_, rfl, wpAny_letOwnedTupleGo_zip (s := { s with heap := h' }) z' fun h'' z'' sb => ?_⟩
    have hT2 : h''.get? s.heap.objs.size = some { cls := .type "tuple", data := .seq #[u, u2] } := (sb.2 _ (Nat.ne_of_gt hzl)).trans hT
    have new : ObjOk X.prog X.w (upd H s.heap.objs.size (.tup [x, y])) h'' s.heap.objs.size (.tup [x, y]) :=
      ⟨by show 2 ≤ sizeLine; decide, [u, u2], .cons ru (.cons ru2 .nil), ⟨_, hT2, rfl, _, rfl⟩⟩
    have I1 : Inv X pins σ (upd H s.heap.objs.size (.tup [x, y])) { s with heap := h'' } :=
      I.turnedNew (t' := s.toks) (ch := [z, TI, TO, i1, i2]) (fun c o hb q => (sb.2 c (fun q' => hb (by simp [q']))).trans (hk c o (fun q' => hb (by simp [q'])) (fun q' => hb (by simp [q'])) (fun q' => hb (by simp [q'])) (fun q' => hb (by simp [q'])) q)) hf (Nat.le_refl _) new
    refine ⟨.ref s.heap.objs.size, _, I1, rfl, ⟨_, x, y, rfl, I.hok.fresh (Nat.le_refl _), rfl, fun l hl => by rw [I.list_inj hl hqx]; exact hx, fun l hl => by rw [I.list_inj hl hqy]; exact hy⟩, ⟨z'', ?_, ⟨u, u2, ?_⟩, ?_, ?_⟩, fun c hcm => ?_⟩
    · exact (sb.2 _ D.TIz).trans (hk _ _ D.TIz D.TITO D.TIi1 D.TIi2 hTI)
    · exact (sb.2 _ D.TOz).trans TO'
    · exact h1'.at fun o q => (sb.2 _ D.i1z).trans q
    · exact h2'.at fun o q => (sb.2 _ D.i2z).trans q
    · have hlt : c < s.heap.objs.size := by
        have e' : c = z ∨ c = TI ∨ c = TO ∨ c = i1 ∨ c = i2 := by simpa using hcm
        rcases e' with q | q | q | q | q
        · rw [q]; exact hzl
        · rw [q]; exact Heap.lt_size hTI
        · rw [q]; exact Heap.lt_size hTO
        · rw [q]; obtain ⟨_, e1, _⟩ := h1; exact Heap.lt_size e1
        · rw [q]; obtain ⟨_, e2, _⟩ := h2; exact Heap.lt_size e2
      rw [upd_ne (Nat.ne_of_lt hlt)]
      exact (hf c hcm).1
  done := by
    intro X hP hw hK hc i pins s σ H E I hf st hg
    subst hP hw hK
    obtain ⟨hz, hTI, ⟨x0, y0, hTO⟩, h1, h2⟩ := st
    obtain ⟨xs, ys, hqx, hqy, hend⟩ := hg
    obtain ⟨its, rv, p, _⟩ := I.list hqx
    obtain ⟨its2, rv2, p2, _⟩ := I.list hqy
    have l1 := rv.length
    have l2 := rv2.length
    have he : its.toArray[i]? = none ∨ its2.toArray[i]? = none := by
      rcases hend with q | q
      · exact .inl (by simp; omega)
      · exact .inr (by simp; omega)
    exact wpAny_pyNext_zip_end (I.ok.hd hc) D hz hTI hTO h1 h2 p.isList p2.isList he fun h' hk => ⟨rfl, I.turnedL (t' := s.toks) (ch := [z, TI, TO, i1, i2]) (fun c o hb q =>
      hk c o (fun q' => hb (by simp [q'])) (fun q' => hb (by simp [q'])) (fun q' => hb (by simp [q'])) (fun q' => hb (by simp [q'])) q) hf⟩
  self := fun A i s Q E st h => wpAny_pyIter_zip st.1 h
def iZip (K : PySem.W.Frag) (ta : TA) : TI := fun σ H R => ta σ H fun vs H1 => ∃ a b xs ys, vs = [.ref a, .ref b] ∧ SqL K H1 a xs ∧ SqL K H1 b ys ∧ R (Itz K a b) H1
theorem pi_zip {X : Cx} {e e2 : Expr} {ta : TA} {p pos tpos : Pos} {elts : List Expr} {kk : Nat} (hg : Gl X "zip") (hm : X.mg "zip" = none) (ha : PA X [e, e2] ta)
    (hs : starEach [e, e2] X.env = (false, eval e X.env) :: starEach [e2] X.env := by rfl) (hpl : (backTo pos (starEach [e2] X.env)).any (·.1) = false := by rfl) :
    PI X (.Tuple elts kk tpos) (.Call (.Name "zip" p) [e, e2] [] pos) (iZip X.K ta) := by
  intro pins s σ H R I h
  refine Call_ (ld_blt I hg hm boot_zip5 (PyProof.Rows.callWith_type1 (thn (ha pos pins s σ H _ I h) fun us s1 ⟨vs, H1, I1, r1, q1⟩ => ?_) hs hpl))
  obtain ⟨a, b, xs, ys, ex, hqx, hqy, q⟩ := q1
  subst ex
  cases r1 with
  | cons r rr =>
    cases rr with
    | cons r' rr =>
      cases rr
      cases r
      cases r'
      obtain ⟨its, rv, p1, _⟩ := I1.list hqx
      obtain ⟨its2, rv2, p2, _⟩ := I1.list hqy
      have la : a < s1.heap.objs.size := p1.lt
      have lb : b < s1.heap.objs.size := p2.lt
      refine call_zip_2 p1.isList p2.isList fun h' hz hTI hTO h1 h2 hsz hk => wpAny_pyIter_zip hz ?_
      have I2 : Inv X pins σ H1 { s1 with heap := h' } := I1.kept (t' := s1.toks) hk
      refine ⟨s1.heap.objs.size + 4, [s1.heap.objs.size + 4, s1.heap.objs.size + 2, s1.heap.objs.size + 3, s1.heap.objs.size, s1.heap.objs.size + 1], _, _, H1, rfl, I2, turn_zip (PySem.W.ktu_apart s1.heap.objs.size a b la lb), ⟨hz, hTI, ⟨_, _, hTO⟩, h1, h2⟩, fun c hcm => ?_, q⟩
      have e' : c = s1.heap.objs.size + 4 ∨ c = s1.heap.objs.size + 2 ∨ c = s1.heap.objs.size + 3 ∨ c = s1.heap.objs.size ∨ c = s1.heap.objs.size + 1 := by simpa using hcm
      have hle : s1.heap.objs.size ≤ c := by
        rcases e' with z | z | z | z | z
        · rw [z]; exact Nat.le_add_right _ _
        · rw [z]; exact Nat.le_add_right _ _
        · rw [z]; exact Nat.le_add_right _ _
        · rw [z]; exact Nat.le_refl _
        · rw [z]; exact Nat.le_add_right _ _
      exact I1.fpOk hle (I1.hok.fresh hle)
end L2
section 
namespace Bits
open PySem PyProof.Rows
theorem nat_xor_add_and (m : Nat) : ∀ n : Nat, (m ^^^ n) + 2 * (m &&& n) = m + n := by
  induction m using Nat.strongRecOn with
  | _ m ih =>
    intro n
    by_cases h0 : m = 0
    · subst h0
      simp
    · have ih' := ih (m / 2) (by omega) (n / 2)
      rw [← Nat.xor_div_two, ← Nat.and_div_two] at ih'
      have o1 := @Nat.xor_mod_two_eq_one m n
      have a1 := @Nat.and_mod_two_eq_one m n
      omega
theorem bitXor_pp {x y : Int} (hx : 0 ≤ x) (hy : 0 ≤ y) : Builtin.bitXor x y = ((x.toNat ^^^ y.toNat : Nat) : Int) := by
  have e := nat_xor_add_and x.toNat y.toNat
  rw [bitXor_and, bitAnd_pp hx hy]
  omega
theorem bitOr_pp {x y : Int} (hx : 0 ≤ x) (hy : 0 ≤ y) : Builtin.bitOr x y = ((x.toNat ||| y.toNat : Nat) : Int) := by
  have e := nat_or_add_and x.toNat y.toNat
  rw [bitOr_and, bitAnd_pp hx hy]
  omega
end Bits
end 
section 
namespace TL
open PySem PySem.Builtin PySem.Builtin.Str PySem.StrLaws
end TL
end 
namespace L2
open PySem PySem.Spec PyProof.Rows
section
variable {X : Cx} {pins : List (Addr × Obj)} {σ : St} {H : Hp} {s : Shared} {Q : VK}
end
section
variable {X : Cx}
end
section
variable {X : Cx} {o e : Expr} {to te : TE}
end
section
variable {X : Cx}
end
end L2
namespace Att
open PySem PySem.W PySem.Calls PyProof.Rows
section
variable {prog : Program} {w : World} {A : Around} {E : Value → Shared → Prop} {s : Shared} {K : Frag}
end
end Att
namespace L2
open PySem PySem.Spec PyProof.Rows
def inClass (s : Stmt) (j : Nat) : Stmt := match s with
  | .ClassDef _ _ _ body _ _ _ _ _ _ _ => body.getD j (.Pass ⟨0, 0, 0, 0⟩)
  | _ => .Pass ⟨0, 0, 0, 0⟩
def defArgs (s : Stmt) : Arguments := match s with
  | .FunctionDef _ a _ _ _ _ _ _ _ _ => a
  | _ => { posonlyargs := [], args := [], vararg := none, kwonlyargs := [], kw_defaults := [], kwarg := none, defaults := [] }
def defBody (s : Stmt) : List Stmt := match s with
  | .FunctionDef _ _ b _ _ _ _ _ _ _ => b
  | _ => []
def defScope (s : Stmt) : Scope := match s with
  | .FunctionDef _ _ _ _ _ _ sc _ _ _ => sc
  | _ => { kind := .function, names := [], isGenerator := false, isCoroutine := false }
abbrev CX0 : CXT := fun _ _ _ _ _ _ => False
abbrev E0 : XK := fun _ _ _ => False
theorem pass0 {X : Cx} : Passes CX0 X E0 := fun _ _ _ _ _ _ _ h => h.elim
structure Fun (K : PySem.W.Frag) (x qual : Str) (st : Stmt) (f : Addr) (fd : FuncData) : Prop where
  ex : ∃ (oc : Value) (od : Option Addr) (kV doc pm : Value) (an : Option Addr) (cdv ct : Value) (osl : Array (Option Value)),
    fd = PySem.W.fnOf x qual (defArgs st) (defBody st) (defScope st) .none kV doc pm an cdv ct ∧ K.lookup f = some ⟨oc, od, .func fd, osl⟩ ∧ PySem.W.codeIn K cdv qual = true
  kp : PySem.W.keepIn K (.ref f) = true
section
variable {P : Program} {w : World} {K : PySem.W.Frag} {mg : Str → Option Value} {base : Heap}
theorem Fun.ok {x qual : Str} {st : Stmt} {f : Addr} {fd : FuncData} {N ps : List Str} {k : Nat} {sp : Sp} (F : Fun K x qual st f fd) (S : FnScope N ps (defScope st)) (len : ∀ vs H Q E, sp vs H Q E → vs.length = ps.length)
    (hbody : ∀ (cdv : Value) (A : Around) (outer : List Env) (s : Shared) (H : Hp) (vs : List V) (Q : VK) (E : XK), Room k (A.deeper (envOfC qual (defScope st) s.heap.objs.size f cdv)) → sp vs H Q E →
      ∃ t, PSs (cxOf CX0 P w K mg base N qual (defScope st) f cdv A outer s H E).nox (defBody st) t ∧ t { nx := fun _ H' => Q .non H', rt := Q } (start N vs) H) : FnOk P w K mg base CX0 (k + 1) f fd ps sp := by
  obtain ⟨oc, od, kV, doc, pm, an, cdv, ct, osl, rfl, lk, hcd⟩ := F.ex
  refine fn_of lk hcd S len fun A outer s H vs Q E hr hsp => ?_
  obtain ⟨t, h, q⟩ := hbody cdv A outer s H vs Q E hr hsp
  exact ⟨t, h.nox, q⟩
theorem Fun.binds {x qual : Str} {st : Stmt} {f : Addr} {fd : FuncData} {ps : List Str} (F : Fun K x qual st f fd)
    (h : ∀ (kV doc pm : Value) (an : Option Addr) (cdv ct : Value) (us : List Value), us.length = ps.length → bindArgs (PySem.W.fnOf x qual (defArgs st) (defBody st) (defScope st) .none kV doc pm an cdv ct) ⟨us, []⟩ = pure (ps.zip us)) : Binds K fd ps [] := by
  obtain ⟨oc, od, kV, doc, pm, an, cdv, ct, osl, rfl, lk, hcd⟩ := F.ex
  exact .all (h kV doc pm an cdv ct)
theorem fun_mk {x qual : Str} {st : Stmt} {f : Addr} {oc : Value} {od an : Option Addr} {osl : Array (Option Value)} {kV doc pm cdv ct : Value} (l : K.lookup f = some ⟨oc, od, .func (PySem.W.fnOf x qual (defArgs st) (defBody st) (defScope st) .none kV doc pm an cdv ct), osl⟩)
    (c : PySem.W.codeIn K cdv qual = true) (k : PySem.W.keepIn K (.ref f) = true) : Fun K x qual st f (PySem.W.fnOf x qual (defArgs st) (defBody st) (defScope st) .none kV doc pm an cdv ct) := ⟨⟨oc, od, kV, doc, pm, an, cdv, ct, osl, rfl, l, c⟩, k⟩
end
section
variable {X : Cx}
theorem pv (i : Nat) {x : Str} {pos : Pos} (hN : X.N[i]? = some x := by rfl) (hv : Vis X.env.scope x := by first | exact Or.inl rfl | exact Or.inr (Or.inl rfl) | exact Or.inr (Or.inr rfl)) (hd : (x == ("__debug__" : Str)) = false := by decide)
    (hcd : (x == ("__classdict__" : Str)) = false := by decide) : PE X (.Name x pos) (tVar i) := pe_var hN hv hd hcd
end
theorem iteF {A B : Prop} (h : B) : if false = true then A else B := by
  rw [if_neg Bool.false_ne_true]
  exact h
theorem iteT {A B : Prop} (h : A) : if true = true then A else B := by
  rw [if_pos rfl]
  exact h
theorem ite2 {c A B : Prop} [Decidable c] (h1 : c → A) (h2 : ¬ c → B) : if c then A else B := by
  by_cases h : c
  · rw [if_pos h]
    exact h1 h
  · rw [if_neg h]
    exact h2 h
def Same (H H' : Hp) : Prop := ∀ b o, H b = some o → H' b = some o
theorem Same.refl (H : Hp) : Same H H := fun _ _ h => h
theorem Same.trans {H H1 H2 : Hp} (a : Same H H1) (b : Same H1 H2) : Same H H2 := fun c o h => b c o (a c o h)
theorem Same.free {H H' : Hp} (e : Same H H') {l : Addr} (h : H' l = Option.none) : H l = Option.none := by
  cases q : H l with
  | none => rfl
  | some o =>
    rw [e l o q] at h
    cases h
theorem Same.seq {K : PySem.W.Frag} {H H' : Hp} {a : Addr} {xs : List V} (e : Same H H') (h : SqL K H a xs) : SqL K H' a xs := by
  rcases h with (h | ⟨o, h⟩) | h
  · exact .inl (.inl (e _ _ h))
  · exact .inl (.inr ⟨o, e _ _ h⟩)
  · exact .inr h
section
variable {κ : Type} [DecidableEq κ]
end
theorem nd_ix {α : Type} {l : List α} (hN : l.Nodup) {i j : Nat} {x : α} (a : l[i]? = some x) (b : l[j]? = some x) : i = j := by
  obtain ⟨h1, e1⟩ := List.getElem?_eq_some_iff.mp a
  obtain ⟨h2, e2⟩ := List.getElem?_eq_some_iff.mp b
  exact (List.getElem_inj hN).mp (e1.trans e2.symm)
structure Fly (P : Program) (w : World) (outer : List Env) (H H' : Hp) (h B h' : Heap) : Prop where
  hok : HOk P w H' B
  keep : ∀ b o, h.get? b = some o → H b = none → b ∉ frs outer → B.get? b = some o
  there : ∀ b o, h.get? b = some o → b ∉ frs outer → ∃ o', B.get? b = some o'
  slot : ∀ b o, h.get? b = some o → b ∈ frs outer → H b = none ∧ (∀ vs, o.data ≠ .fields vs) ∧ ∃ sl, h'.get? b = some { o with slots := sl }
  free : ∀ b o, h.get? b = some o → H b = none → H' b = none
  tups : ∀ b xs, H b = some (.tup xs) → H' b = some (.tup xs)
  frzs : ∀ b o u, H b = some (.frz o u) → H' b = some (.frz o u)
  tbls : ∀ b ps, H b = some (.tbl ps) → ∃ more, H' b = some (.tbl (ps ++ more))
  stays : ∀ b o, B.get? b = some o → h'.get? b = some o
theorem Fly.un {P : Program} {w : World} {outer : List Env} {H H' : Hp} {h B h' : Heap} (F : Fly P w outer H H' h B h') : Un (frs outer) [] H H' h h' where
  keep := fun b o q n hb _ => F.stays b o (F.keep b o q n hb)
  slot := fun b o q _ hb _ => (F.slot b o q hb).2.2
  free := fun b o q n _ => F.free b o q n
  there := fun b o q _ => by
    by_cases hb : b ∈ frs outer
    · obtain ⟨_, _, sl, e⟩ := F.slot b o q hb
      exact ⟨_, e⟩
    · obtain ⟨o', e⟩ := F.there b o q hb
      exact ⟨o', F.stays b o' e⟩
  tups := F.tups
  frzs := F.frzs
  tbls := F.tbls
theorem Fly.ok {P : Program} {w : World} {outer : List Env} {H H' : Hp} {h B h' : Heap} (F : Fly P w outer H H' h B h') : HOk P w H' h' := F.hok.kept F.stays
theorem Fly.up {P : Program} {w : World} {outer : List Env} {H H' : Hp} {h B h' h2 : Heap} (F : Fly P w outer H H' h B h') (up : h'.UpToSlots h2) (st : ∀ b o, B.get? b = some o → h2.get? b = some o) : Fly P w outer H H' h B h2 :=
  ⟨F.hok, F.keep, F.there, fun b o q hb => by
    obtain ⟨n, d, sl, e⟩ := F.slot b o q hb
    obtain ⟨sl2, e2⟩ := up b _ e d
    exact ⟨n, d, sl2, e2⟩, F.free, F.tups, F.frzs, F.tbls, st⟩
def CX1 (P : Program) (w : World) : CXT := fun outer H s E e s' =>
  ∃ (ea : Addr) (cls a0 : Value) (H' : Hp) (B : Heap), e = .ref ea ∧ s'.os = s.os ∧ AllBare s'.gens ∧ Fly P w outer H H' s.heap B s'.heap ∧ Heap.FlyingW B outer ea cls a0 s'.heap ∧ E cls none H'
section
variable {X : Cx} {pins : List (Addr × Obj)} {σ : St} {H1 H2 : Hp} {s1 : Shared} {B h2 h3 : Heap}
theorem sub_stack (hst : X.stack = X.env :: X.outer) {b : Addr} (hb : b ∈ frs X.outer) : b ∈ frs X.stack := by
  rw [hst]
  unfold frs at hb ⊢
  rw [List.filterMap_cons]
  split
  · exact hb
  · exact List.mem_cons_of_mem _ hb
theorem off_stack (I : Inv X pins σ H1 s1) {b : Addr} {o : Obj} (q : X.s_0.heap.get? b = some o) (hb : b ∉ frs X.outer) : b ∉ frs X.stack := fun z => by
  rcases List.mem_cons.mp (I.stkSub b z) with e | e
  · exact absurd (Nat.lt_of_lt_of_le (Heap.lt_size q) I.ok.above) (by rw [e]; exact Nat.lt_irrefl _)
  · exact hb e
theorem fly_made (I : Inv X pins σ H1 s1) (hst : X.stack = X.env :: X.outer) (hex : X.ex = []) (k : ∀ b o, s1.heap.get? b = some o → h2.get? b = some o) (up : h2.UpToSlots h3)
    (st : ∀ b o, (PySem.W.hideAll s1.heap (frs X.stack)).get? b = some o → h3.get? b = some o) :
    Fly X.prog X.w X.outer X.H_0 H1 X.s_0.heap (PySem.W.hideAll s1.heap (frs X.stack)) h3 := by
  have nx : ∀ b : Addr, b ∉ X.ex := fun b z => by rw [hex] at z; exact nomatch z
  have vis : ∀ b o, s1.heap.get? b = some o → b ∉ frs X.stack → (PySem.W.hideAll s1.heap (frs X.stack)).get? b = some o := fun b o q n => PySem.W.hideAll_get _ q n
  have trk : ∀ b u, H1 b = some u → b ∉ frs X.stack := fun b u q z => by rw [I.stkFree b z] at q; cases q
  refine ⟨fun a o e => (I.hok a o e).stay (fun b u hb q => vis b u q ?_) (fun _ q => q) (fun _ _ q => q), fun b o q n hb => ?_, fun b o q hb => ?_, fun b o q hb => ?_, fun b o q n => I.base.free b o q n (nx b), I.base.tups, I.base.frzs, I.base.tbls, st⟩
  · rcases hb with z | z
    · rw [z]; exact trk a o e
    · exact trk b _ z
  · exact vis b o (I.base.keep b o q n hb (nx b)) (off_stack I q hb)
  · obtain ⟨o', e⟩ := I.base.there b o q (nx b)
    exact ⟨o', vis b o' e (off_stack I q hb)⟩
  · have n := I.ok.frf b hb
    obtain ⟨_, o1, e1, d1⟩ := I.ok.funs.mem hb
    have eo : o1 = o := by rw [q] at e1; exact (Option.some.inj e1).symm
    subst eo
    obtain ⟨sl, e2⟩ := I.base.slot b o1 q n hb (nx b)
    obtain ⟨sl3, e3⟩ := up b _ (k b _ e2) d1
    exact ⟨n, d1, sl3, e3⟩
theorem fly_pass (I : Inv X pins σ H1 s1) (hst : X.stack = X.env :: X.outer) (hex : X.ex = []) (F : Fly X.prog X.w X.stack H1 H2 s1.heap B h2) (up : h2.UpToSlots h3) (st : ∀ b o, B.get? b = some o → h3.get? b = some o) :
    Fly X.prog X.w X.outer X.H_0 H2 X.s_0.heap B h3 := by
  have nx : ∀ b : Addr, b ∉ X.ex := fun b z => by rw [hex] at z; exact nomatch z
  refine ⟨F.hok, fun b o q n hb => ?_, fun b o q hb => ?_, fun b o q hb => ?_, fun b o q n => ?_, fun b xs q => F.tups b xs (I.base.tups b xs q), fun b o u q => F.frzs b o u (I.base.frzs b o u q), fun b ps q => ?_, st⟩
  · exact F.keep b o (I.base.keep b o q n hb (nx b)) (I.base.free b o q n (nx b)) (off_stack I q hb)
  · obtain ⟨o', e⟩ := I.base.there b o q (nx b)
    exact F.there b o' e (off_stack I q hb)
  · have n := I.ok.frf b hb
    obtain ⟨sl, e1⟩ := I.base.slot b o q n hb (nx b)
    obtain ⟨_, d1, sl2, e2⟩ := F.slot b _ e1 (sub_stack hst hb)
    obtain ⟨sl3, e3⟩ := up b _ e2 d1
    exact ⟨n, d1, sl3, e3⟩
  · obtain ⟨o', e⟩ := I.base.there b o q (nx b)
    exact F.free b o' e (I.base.free b o q n (nx b))
  · obtain ⟨m1, e1⟩ := I.base.tbls b ps q
    obtain ⟨m2, e2⟩ := F.tbls b _ e1
    exact ⟨m1 ++ m2, by rw [e2, Array.append_assoc]⟩
end
theorem own_K {K : PySem.W.Frag} {h : Heap} {mg : Str → Option Value} {x : Str} {C : Addr} {bmB : List Value} {newId : String} (X : K.In h) (hm : mg x = some (.ref C)) (q : PySem.W.excIn K C bmB newId = true) : OwnCls x C bmB newId mg h := by
  constructor
  · exact hm
  · unfold PySem.W.excIn at q
    split at q
    next dd cd sl ho =>
      split at q
      next C' bm k0 k1 k2 k3 n k5 hmro hsl =>
        simp only [Bool.and_eq_true, beq_iff_eq, Bool.not_eq_true'] at q
        obtain ⟨⟨⟨⟨⟨e1, e2⟩, hdel⟩, ht⟩, hok⟩, hni⟩ := q
        subst e1 e2
        cases cd
        dsimp only at hmro hdel hok hni
        subst hmro hdel
        have e3 : sl = #[k0, k1, k2, k3, some (.builtin n), k5] := by
          cases sl
          simp only at hsl
          rw [hsl]
        subst e3
        exact ⟨bm, _, _, _, _, _, _, _, _, _, dd, k0, k1, k2, k3, k5, _, X _ _ ho, .of_isNs (PySem.W.isNs_of_in X hok), PySem.W.nsMap_none_of_in X hok hni, PySem.W.tail_of_in X ht⟩
      next => cases q
    next => cases q
structure Exc (K : PySem.W.Frag) (mg : Str → Option Value) (x : Str) (C : Addr) : Prop where
  bound : mg x = some (.ref C)
  ex : ∃ (bmB : List Value) (newId initId B : String), PySem.ExcBaseFacts B newId initId bmB ∧ PySem.W.excIn K C bmB newId = true
  kts : PySem.W.ktsIn K C "BaseException" = true
def tRaise (E : XK) (C : Addr) : TS := fun _ _ H => E (.ref C) none H
section
variable {P : Program} {w : World} {K : PySem.W.Frag} {mg : Str → Option Value} {base : Heap} {N : List Str} {qual : Str} {scope : Scope} {f : Addr} {cd : Value} {A : Around} {outer : List Env} {s : Shared} {H : Hp} {E : XK}
abbrev cx1 (P : Program) (w : World) (K : PySem.W.Frag) (mg : Str → Option Value) (base : Heap) (N : List Str) (qual : Str) (scope : Scope) (f : Addr) (cd : Value) (A : Around) (outer : List Env) (s : Shared) (H : Hp) (E : XK) : Cx :=
  cxOf (CX1 P w) P w K mg base N qual scope f cd A outer s H E
theorem xe_made {pins : List (Addr × Obj)} {σ : St} {H1 : Hp} {s1 : Shared} {h2 : Heap} {e : Addr} {C : Addr} {vs : List Value} (I : Inv (cx1 P w K mg base N qual scope f cd A outer s H E) pins σ H1 s1)
    (hx : Heap.MadeExcOf s1.heap h2 e (.ref C) vs) (hE : E (.ref C) none H1) : (cx1 P w K mg base N qual scope f cd A outer s H E).xe (.ref e) { s1 with heap := h2 } := by
  have hst : (cx1 P w K mg base N qual scope f cd A outer s H E).stack = (cx1 P w K mg base N qual scope f cd A outer s H E).env :: (cx1 P w K mg base N qual scope f cd A outer s H E).outer := rfl
  have ff := I.stack
  have hin : ∀ env ∈ (cx1 P w K mg base N qual scope f cd A outer s H E).stack, ∀ b, env.frame = some b → b ∈ frs (cx1 P w K mg base N qual scope f cd A outer s H E).stack := fun env he b hb => List.mem_filterMap.mpr ⟨env, he, hb⟩
  refine wpAny_leaves_madeW (base := PySem.W.hideAll s1.heap (frs (cx1 P w K mg base N qual scope f cd A outer s H E).stack)) (outer := outer) (h := s1.heap) I.ok.frames (L := s.heap.objs.size) rfl (fun b o q => PySem.W.of_hideAll _ q) (PySem.W.funFrames_hide ff hin) hx
    fun h' t fl _ _ up => ?_
  exact ⟨e, .ref C, .ref t, H1, _, rfl, I.os, I.bare, fly_made I hst rfl (fun b o q => hx.keeps b o q) up fl.1, fl, hE⟩
theorem ps_raise0 {x : Str} {C : Addr} {np cpos pos : Pos} (O : Exc K mg x C) (hd : A.handled = none) (hk : scope.kind = .function := by rfl) (hx : scope.names.lookup x = some .globalImplicit := by rfl) (hdb : (x == ("__debug__" : Str)) = false := by decide) :
    PS (cx1 P w K mg base N qual scope f cd A outer s H E) (.Raise (some (.Call (.Name x np) [] [] cpos)) none pos) (tRaise E C) := by
  intro pins s1 σ H1 D I h
  obtain ⟨bmB, newId, initId, Bn, FB, q⟩ := O.ex
  obtain ⟨tl, Nn, nm, qn, bs, hdct, sn, sub, ab, col, dd, k0, k1, k2, k3, k5, mN, hC, hN, hni, T⟩ := (own_K I.kIn O.bound q).obj
  refine wpAny_Raise_call_subT (C := C) (nm := nm) (q := qn) (N := Nn) (bs := bs) (bm := tl) (hdct := hdct) (sn := sn) (sub := sub) (ab := ab) (col := col) (dd := dd) (k0 := k0) (k1 := k1) (k2 := k2) (k3 := k3) (k5 := k5)
    FB (mN := mN) (T.hasType FB.hasBase) hd rfl hni (ld_glob I hx O.bound ⟨rfl, ?_⟩ hdb)
  exact evalArgs_empty ⟨rfl, Nat.zero_le _, hC, hN, T, fun h' e hm => xe_made I hm h⟩
theorem pass1 {E' : XK} (hE : ∀ c d H, E' c d H → E c d H) : Passes (CX1 P w) (cx1 P w K mg base N qual scope f cd A outer s H E) E' := by
  rintro pins σ H1 s1 e s' I ⟨ea, cls, a0, H2, B, rfl, os, bare, F, fl, q⟩
  refine wpAny_leaves_onW (outer := outer) (L := s.heap.objs.size) I.ok.frames rfl fl fun h' fl' up => ?_
  exact ⟨ea, cls, a0, H2, B, rfl, os.trans I.os, bare, fly_pass I rfl rfl F up fl'.1, fl', hE _ _ _ q⟩
theorem own1 : PassesOwn (model P w) (cx1 P w K mg base N qual scope f cd A outer s H E).A (cx1 P w K mg base N qual scope f cd A outer s H E).env (cx1 P w K mg base N qual scope f cd A outer s H E).xe := PassesOwn.leaving
end
abbrev Cx.marked (X : Cx) (e : Value) : Cx := { X with A := X.A.mark (some e), calm := false }
section
variable {X : Cx} {e : Value} {pins : List (Addr × Obj)} {σ : St} {H : Hp} {s : Shared}
theorem Cx.Ok.marked (ok : X.Ok) (e : Value) : (X.marked e).Ok :=
  ⟨ok.mod, ok.kind, ok.glob, ok.blt, ok.above, ok.inj, ok.has, ok.cab, (fun z => nomatch z), ok.frames, ok.stk, ok.exf, ok.bs, ok.bsz, ok.noex, ok.exfs, ok.funs, ok.frf⟩
theorem Inv.marked (I : Inv X pins σ H s) (e : Value) : Inv (X.marked e) pins σ H s := ⟨I.ok.marked e, I.os, I.bare, I.base, I.loc, I.cell, I.free, I.freeC, I.pin, I.hok, I.len⟩
theorem Inv.unmarked (I : Inv (X.marked e) pins σ H s) (ok : X.Ok) : Inv X pins σ H s := ⟨ok, I.os, I.bare, I.base, I.loc, I.cell, I.free, I.freeC, I.pin, I.hok, I.len⟩
theorem SP.unmarked {D : Ends} {f : Flow} (h : SP (X.marked e) pins D f s) (ok : X.Ok) : SP X pins D f s := by
  cases f with
  | next => obtain ⟨σ', H', I, q⟩ := h; exact ⟨σ', H', I.unmarked ok, q⟩
  | brk => obtain ⟨σ', H', I, q⟩ := h; exact ⟨σ', H', I.unmarked ok, q⟩
  | cont => obtain ⟨σ', H', I, q⟩ := h; exact ⟨σ', H', I.unmarked ok, q⟩
  | ret u => obtain ⟨v, σ', H', I, r, q⟩ := h; exact ⟨v, σ', H', I.unmarked ok, r, q⟩
end
def PX (X : Cx) (e : Expr) (t : St → Hp → VK → XK → Prop) : Prop :=
  ∀ (pins : List (Addr × Obj)) (s : Shared) (σ : St) (H : Hp) (Q : VK) (E : XK) (E1 : Value → Shared → Prop), Inv X pins σ H s → t σ H Q E →
    (∀ H1 s1 x s', Inv X pins σ H1 s1 → CX1 X.prog X.w X.stack H1 s1 E x s' → E1 x s') → wpAny (model X.prog X.w) X.A (eval e X.env) (EP X pins σ Q) E1 s
section
variable {X : Cx} {k : Nat} {f C : Addr} {fd : FuncData} {ps : List Str} {sp : Sp} {x m : Str} {p pos apos : Pos} {e o : Expr} {es : List Expr} {ta : TE} {t : TA}
theorem run_px {pins : List (Addr × Obj)} {σ : St} {H : Hp} {s : Shared} {Q : VK} {E : XK} {E1 : Value → Shared → Prop} {us : List Value} {vs : List V} (F : FnOk X.prog X.w X.K X.mg X.base (CX1 X.prog X.w) k f fd ps sp) (hr : Room k X.A) (hb : Binds X.K fd ps [])
    (I : Inv X pins σ H s) (r : Vals vs us) (h : sp vs H Q E) (hx : ∀ x s', CX1 X.prog X.w X.stack H s E x s' → E1 x s') : wpAny (model X.prog X.w) X.A (call (.ref f) us) (EP X pins σ Q) E1 s := by
  have hl : (us ++ ([] : List Value)).length = ps.length := by rw [List.append_nil, ← r.length]; exact F.len _ _ _ _ h
  have hb2 := hb s us I.kIn hl
  rw [List.append_nil] at hb2
  refine wpAny_call (codeAny_mono (F.run X.A X.stack s H ⟨us, []⟩ us vs Q E hr I.env0 hb2 r h) fun r s' hq => ?_)
  cases r with
  | error e => exact hx e s' hq
  | ok fl =>
    cases fl with
    | ret u => exact I.after hq
    | next => exact False.elim hq
    | brk => exact False.elim hq
    | cont => exact False.elim hq
def tMethX (C : Addr) (m : Str) (sp : Sp) (ta : TE) (t : TA) : St → Hp → VK → XK → Prop := fun σ H Q E => ta σ H fun x H1 => ∃ a dx fs, x = .ref a ∧ H1 a = some (.ins C dx fs) ∧ fs.lookup m = none ∧ t σ H1 fun vs H2 => sp (x :: vs) H2 Q E
theorem px_meth0 {pl : Sem Bool} (he : PE X.nox o ta) (c : Cls X.K C) (hm : Meth X.K C m f) (F : FnOk X.prog X.w X.K X.mg X.base (CX1 X.prog X.w) k f fd ps sp) (hr : Room k X.A) (hb : Binds X.K fd ps [])
    (ht : eval (.Call (.Attribute o m apos) [] [] pos) X.env = (do
      let ov ← eval o X.env
      standAt apos.atName
      let (f, first) ← holding [ov] (getMethod ov m pl)
      callWith pos f first (backTo pos (starEach [] X.env)) (backToKw pos (keywordEach [] X.env))) := by rfl) :
    PX X (.Call (.Attribute o m apos) [] [] pos) (tMethX C m sp ta tNil) := by
  intro pins s σ H Q E E1 I h hx
  refine PySem.W.methodCall_KW (pl := pl) (wpAny_mono (he pins s σ H _ (I.wish _) h) (fun u s1 z => ?_) fun _ _ z => False.elim z) ht
  obtain ⟨y, H1, I1', rx, a, dx, fs, ex, ea, l, q⟩ := z
  have I1 := I1'.unwish
  subst ex
  obtain rfl : u = Value.ref a := rx
  refine getmeth_ok I1 ea c hm l ?_
  exact PySem.W.callWith_K0 (first := [.ref a]) I1.kIn hm.kp (run_px (us := [.ref a]) (vs := [.ref a]) F hr hb I1 (.cons rfl .nil) q fun z s' q' => hx H1 s1 z s' I1 q')
end
section
variable {X : Cx} {x : Str} {CE : Addr} {np hpos epos pos : Pos} {b0 : Stmt} {suite : List Stmt} {ts : TS}
theorem caught {pins : List (Addr × Obj)} {σ : St} {H1 : Hp} {s1 s' : Shared} {D : Ends} {e : Value} (I : Inv X pins σ H1 s1) (hst : X.stack = X.env :: X.outer) (hfr : X.env.frame = some X.env.locals) (O : Exc X.K X.mg x CE) (hg : Gl X x)
    (c : CX1 X.prog X.w X.stack H1 s1 (fun cls _ H2 => cls = .ref CE ∧ ts D σ H2) e s') (hs : ∀ e, PSs (X.marked e) (b0 :: suite) ts) (hE : ∀ e, PassesOwnAt (model X.prog X.w) (X.A.mark (some e)) X.A X.env X.xe) (hdb : (x == ("__debug__" : Str)) = false := by decide) :
    wpAny (model X.prog X.w) X.A (noteFrame e X.env) (fun _ s2 => wpAny (model X.prog X.w) X.A (setFlight e none) (fun _ s3 =>
      wpAny (model X.prog X.w) X.A (handleBy e X.env [.ExceptHandler (some (.Name x np)) none (b0 :: suite) hpos]) (SP X pins D) X.xe s3) X.xe s2) X.xe s' := by
  obtain ⟨ea, cls, a0, H2, B, rfl, os, bare, F, fl, hc, q⟩ := c
  subst hc
  have fl0 : Heap.FlyingW B (X.env :: X.outer) ea (.ref CE) a0 s'.heap := by rw [← hst]; exact fl
  refine wpAny_looks_onW (outer := X.outer) (env := X.env) (L := X.env.locals) (by rw [I.ok.frames, hst]) hfr fl0 fun h4 hh4 up4 => ?_
  refine wpAny_landsW hh4 fun h5 fl5 up5 => ?_
  have F5 := F.up (up4.trans up5) fl5.1
  have I5 : Inv X pins σ H2 { s' with heap := h5 } := I.call' (ch := []) os F5.un F5.ok bare (fun b z => absurd z (by simp))
  obtain ⟨nm, qn, N, bs, bm, hdct, sn, sub, ab, col, dd, k0, k1, k2, k3, k5, newId, hC, hbase, _⟩ := PySem.W.kts_cls I5.kIn O.kts
  obtain ⟨ob, hob, hobc⟩ := fl5.there
  refine wpAny_handleBy_cons (codeAny_handlers_test (ld_glob (X := X.marked (.ref ea)) (I5.marked _) hg O.bound ?_ hdb)) (by intro z; cases z)
  refine wpAny_excMatches_sub_self hC hob hobc hbase (codeAny_handlers_suite ?_)
  refine lands_againW fl5 fun h6 fl6 up6 => ?_
  have F6 := F5.up up6 fl6.1
  have I6 : Inv X pins σ H2 { s' with heap := h6 } := I.call' (ch := []) os F6.un F6.ok bare (fun b z => absurd z (by simp))
  refine wpAny_passesOwnAt (hE _) ?_
  exact wpAny_mono (hs _ pins _ σ H2 D (I6.marked _) q) (fun f s7 z => z.unmarked I.ok) fun _ _ z => z
def tTry (t : St → Hp → VK → XK → Prop) (CE : Addr) (ts : TS) : TS := fun D σ H => t σ H (fun _ H1 => D.nx σ H1) fun cls _ H2 => cls = .ref CE ∧ ts D σ H2
theorem ps_try {e : Expr} {t : St → Hp → VK → XK → Prop} (hst : X.stack = X.env :: X.outer) (hfr : X.env.frame = some X.env.locals) (O : Exc X.K X.mg x CE) (hg : Gl X x) (he : PX X e t) (hs : ∀ e, PSs (X.marked e) (b0 :: suite) ts)
    (hE : ∀ e, PassesOwnAt (model X.prog X.w) (X.A.mark (some e)) X.A X.env X.xe) (hdb : (x == ("__debug__" : Str)) = false := by decide) (hsw : swapsWith e none epos.line X.env = pure false := by rfl) :
    PS X (.Try [.Expr e epos] [.ExceptHandler (some (.Name x np)) none (b0 :: suite) hpos] [] [] pos) (tTry t CE ts) := by
  intro pins s σ H D I h
  refine wpAny_Try_except (wpAny_execs_cons (wpAny_Expr_any (wpAny_mono (he pins s σ H _ _ _ I h fun H1 s1 y s' I1 c => caught I1 hst hfr O hg c hs hE hdb) (fun v s1 z => ?_) fun _ _ z => z) I.quiet hsw))
  obtain ⟨_, H1, I1, _, q1⟩ := z
  exact wpAny_execs_nil (wpAny_execs_nil ⟨σ, H1, I1, q1⟩)
end
structure RoomU (k : Nat) (A : Around) : Prop where
  dp : A.depth + 3 * k + 5 < recursionLimit
  un : A.units + 16 * k + 200 < cLine
theorem Room.mark {k : Nat} {A : Around} (r : Room k A) (e : Value) : RoomU k (A.mark (some e)) := ⟨r.dp, r.un⟩
theorem RoomU.mono {j k : Nat} {A : Around} (r : RoomU k A) (h : j ≤ k) : RoomU j A := ⟨by have := r.dp; omega, by have := r.un; omega⟩
theorem RoomU.deeper {k : Nat} {A : Around} (r : RoomU (k + 1) A) (env : Env) : RoomU k (A.deeper env) :=
  ⟨by have := r.dp; show A.depth + 1 + 3 * k + 5 < _; omega, by have := r.un; show A.units + 3 + 16 * k + 200 < _; omega⟩
theorem RoomU.depth {k : Nat} {A : Around} (r : RoomU k A) : A.depth < recursionLimit := by have := r.dp; omega
structure FnOkU (P : Program) (w : World) (K : PySem.W.Frag) (mg : Str → Option Value) (base : Heap) (k : Nat) (f : Addr) (fd : FuncData) (ps : List Str) (sp : Sp) : Prop where
  len : ∀ vs H Q E, sp vs H Q E → vs.length = ps.length
  run : ∀ (A : Around) (outer : List Env) (s : Shared) (H : Hp) (args : Args) (us : List Value) (vs : List V) (Q : VK) (E : XK), RoomU k A → Env0 P w K mg base A outer s H → BindsTo s fd args (ps.zip us) → Vals vs us → sp vs H Q E →
    codeAny (model P w) A (.call (.ref f) args) (CR CX0 outer P w H s Q E) s
abbrev Cx.wild (X : Cx) : Cx := { X with calm := false }
theorem Inv.wild {X : Cx} {pins : List (Addr × Obj)} {σ : St} {H : Hp} {s : Shared} {A' : Around} (hf : A'.frames = X.A.frames) (I : Inv X pins σ H s) : Inv { X with A := A', calm := false } pins σ H s :=
  ⟨⟨I.ok.mod, I.ok.kind, I.ok.glob, I.ok.blt, I.ok.above, I.ok.inj, I.ok.has, I.ok.cab, (fun z => nomatch z), hf.trans I.ok.frames, I.ok.stk, I.ok.exf, I.ok.bs, I.ok.bsz, I.ok.noex, I.ok.exfs, I.ok.funs, I.ok.frf⟩, I.os, I.bare, I.base, I.loc, I.cell, I.free, I.freeC, I.pin, I.hok, I.len⟩
theorem fn_ofU {P : Program} {w : World} {K : PySem.W.Frag} {mg : Str → Option Value} {base : Heap} {k : Nat} {f : Addr} {name qual : Str} {params : Arguments} {body : List Stmt} {scope : Scope} {dV kV doc pm cdv ct oc : Value} {an od : Option Addr}
    {osl : Array (Option Value)} {N ps : List Str} {sp : Sp} (lk : K.lookup f = some ⟨oc, od, .func (PySem.W.fnOf name qual params body scope dV kV doc pm an cdv ct), osl⟩) (hcd : PySem.W.codeIn K cdv qual = true) (S : FnScope N ps scope)
    (len : ∀ vs H Q E, sp vs H Q E → vs.length = ps.length)
    (hbody : ∀ (A : Around) (outer : List Env) (s : Shared) (H : Hp) (vs : List V) (Q : VK) (E : XK), RoomU k (A.deeper (envOfC qual scope s.heap.objs.size f cdv)) → sp vs H Q E →
      ∃ t, PSs (cxOf CX0 P w K mg base N qual scope f cdv A outer s H E).nox.wild body t ∧ t { nx := fun _ H' => Q .non H', rt := Q } (start N vs) H) :
    FnOkU P w K mg base (k + 1) f (PySem.W.fnOf name qual params body scope dV kV doc pm an cdv ct) ps sp := by
  refine ⟨len, fun A outer s H args us vs Q E hr e0 hb r hsp => ?_⟩
  have hl := len _ _ _ _ hsp
  have KX : K.In s.heap := e0.mod.kin.keeps fun b o e => (e0.bs b o e).1
  have lim : s.heap.NoLimit := e0.mod.nolimit.keeps fun b o e => (e0.bs b o e).1
  have hkind : ∀ y ∈ ps.zip us, scope.names.lookup y.1 = some .local ∨ (scope.names.lookup y.1 = some .cell ∧ ((cellsFrom (s.heap.objs.size + 1) scope.names []).lookup y.1).isSome = true) := fun ⟨n, v⟩ hy => by
    rcases S.par n (List.of_mem_zip hy).1 with q | q
    · exact .inl q
    · exact .inr ⟨q, PySem.W.cellsFrom_some _ _ _ (.inl q)⟩
  refine codeAny_call_function hr.depth (KX _ _ lk) rfl S.co S.gen rfl (PySem.W.codeRec_of KX hcd) (hb _ _ _ _ ?_)
  refine wpAny_newFunctionEnv_cells S.kind hkind fun env he s1 x => ?_
  subst he
  refine ⟨lim.keeps x.toInCall.keep, codeAny_func ?_⟩
  obtain ⟨t, ht, hq⟩ := hbody A outer s H vs Q E (hr.deeper _) hsp
  have e1 : Env0 P w K mg base { A with handled := none } outer s H := ⟨e0.frames, e0.mod, e0.bs, e0.bsz, e0.funs, e0.frf, e0.hok, e0.bare⟩
  have I0 : Inv (cxOf CX0 P w K mg base N qual scope f cdv { A with handled := none } outer s H E) [] (start N vs) H s1 := inv_start S rfl e1 hl r x
  have I : Inv (cxOf CX0 P w K mg base N qual scope f cdv A outer s H E).nox.wild [] (start N vs) H s1 := Inv.wild (X := (cxOf CX0 P w K mg base N qual scope f cdv { A with handled := none } outer s H E).nox) (A' := A.deeper (envOfC qual scope s.heap.objs.size f cdv)) rfl (I0.wish fun _ _ => False)
  refine wpAny_mono (ht [] s1 (start N vs) H _ I hq) (fun fl s' hs => ?_) fun e s' hs => hs.elim
  have fin : ∀ {σ' : St} {H' : Hp} {v : V} {u : Value}, Inv (cxOf CX0 P w K mg base N qual scope f cdv A outer s H E).nox.wild [] σ' H' s' → RelV v u → Q v H' → CE outer P w H s Q u s' :=
    fun {σ' H' v u} J rv q => ⟨v, H', J.os, J.bare, J.base, J.hok, rv, q⟩
  cases fl with
  | ret u =>
    obtain ⟨v, σ', H', J, rv, q⟩ := hs
    exact fin J rv q
  | next =>
    obtain ⟨σ', H', J, q⟩ := hs
    exact fin (v := V.non) (u := Value.none) J rfl q
  | brk =>
    obtain ⟨_, _, _, q⟩ := hs
    exact False.elim q
  | cont =>
    obtain ⟨_, _, _, q⟩ := hs
    exact False.elim q
section
variable {P : Program} {w : World} {K : PySem.W.Frag} {mg : Str → Option Value} {base : Heap}
theorem Fun.okU {x qual : Str} {st : Stmt} {f : Addr} {fd : FuncData} {N ps : List Str} {k : Nat} {sp : Sp} (F : Fun K x qual st f fd) (S : FnScope N ps (defScope st)) (len : ∀ vs H Q E, sp vs H Q E → vs.length = ps.length)
    (hbody : ∀ (cdv : Value) (A : Around) (outer : List Env) (s : Shared) (H : Hp) (vs : List V) (Q : VK) (E : XK), RoomU k (A.deeper (envOfC qual (defScope st) s.heap.objs.size f cdv)) → sp vs H Q E →
      ∃ t, PSs (cxOf CX0 P w K mg base N qual (defScope st) f cdv A outer s H E).nox.wild (defBody st) t ∧ t { nx := fun _ H' => Q .non H', rt := Q } (start N vs) H) : FnOkU P w K mg base (k + 1) f fd ps sp := by
  obtain ⟨oc, od, kV, doc, pm, an, cdv, ct, osl, rfl, lk, hcd⟩ := F.ex
  exact fn_ofU lk hcd S len fun A outer s H vs Q E hr hsp => hbody cdv A outer s H vs Q E hr hsp
theorem Fun.ok1 {x qual : Str} {st : Stmt} {f : Addr} {fd : FuncData} {N ps : List Str} {k : Nat} {sp : Sp} (F : Fun K x qual st f fd) (S : FnScope N ps (defScope st)) (len : ∀ vs H Q E, sp vs H Q E → vs.length = ps.length)
    (hbody : ∀ (cdv : Value) (A : Around) (outer : List Env) (s : Shared) (H : Hp) (vs : List V) (Q : VK) (E : XK), Room k (A.deeper (envOfC qual (defScope st) s.heap.objs.size f cdv)) → sp vs H Q E →
      ∃ t, PSs (cx1 P w K mg base N qual (defScope st) f cdv A outer s H E) (defBody st) t ∧ t { nx := fun _ H' => Q .non H', rt := Q } (start N vs) H) : FnOk P w K mg base (CX1 P w) (k + 1) f fd ps sp := by
  obtain ⟨oc, od, kV, doc, pm, an, cdv, ct, osl, rfl, lk, hcd⟩ := F.ex
  exact fn_of lk hcd S len fun A outer s H vs Q E hr hsp => hbody cdv A outer s H vs Q E hr hsp
end
section
variable {X : Cx} {k : Nat} {f C : Addr} {fd : FuncData} {ps : List Str} {sp : Sp} {m : Str} {pos apos : Pos} {o : Expr} {ta : TE}
theorem run_u {pins : List (Addr × Obj)} {σ : St} {H : Hp} {s : Shared} {Q : VK} {us : List Value} {vs : List V} (F : FnOkU X.prog X.w X.K X.mg X.base k f fd ps sp) (hr : RoomU k X.A) (hb : Binds X.K fd ps [])
    (I : Inv X pins σ H s) (r : Vals vs us) (h : sp vs H Q E0) : wpAny (model X.prog X.w) X.A (call (.ref f) us) (EP X pins σ Q) X.xe s := by
  have hl : (us ++ ([] : List Value)).length = ps.length := by rw [List.append_nil, ← r.length]; exact F.len _ _ _ _ h
  have hb2 := hb s us I.kIn hl
  rw [List.append_nil] at hb2
  refine wpAny_call (codeAny_mono (F.run X.A X.stack s H ⟨us, []⟩ us vs Q E0 hr I.env0 hb2 r h) fun r s' hq => ?_)
  cases r with
  | error e => exact False.elim hq
  | ok fl =>
    cases fl with
    | ret u => exact I.after hq
    | next => exact False.elim hq
    | brk => exact False.elim hq
    | cont => exact False.elim hq
theorem pe_meth0U {pl : Sem Bool} (he : PE X o ta) (c : Cls X.K C) (hm : Meth X.K C m f) (F : FnOkU X.prog X.w X.K X.mg X.base k f fd ps sp) (hr : RoomU k X.A) (hb : Binds X.K fd ps [])
    (ht : eval (.Call (.Attribute o m apos) [] [] pos) X.env = (do
      let ov ← eval o X.env
      standAt apos.atName
      let (f, first) ← holding [ov] (getMethod ov m pl)
      callWith pos f first (backTo pos (starEach [] X.env)) (backToKw pos (keywordEach [] X.env))) := by rfl) :
    PE X (.Call (.Attribute o m apos) [] [] pos) (tMeth C m sp [] E0 ta tNil) := by
  intro pins s σ H Q I h
  refine PySem.W.methodCall_KW (pl := pl) (thn (he pins s σ H _ I h) fun u s1 z => ?_) ht
  obtain ⟨y, H1, I1, rx, a, dx, fs, ex, ea, l, q⟩ := z
  subst ex
  obtain rfl : u = Value.ref a := rx
  refine getmeth_ok I1 ea c hm l ?_
  exact PySem.W.callWith_K0 (first := [.ref a]) I1.kIn hm.kp (run_u (us := [.ref a]) (vs := [.ref a]) F hr hb I1 (.cons rfl .nil) q)
end
theorem for_gen {J : It} {n : Nat} {g : TG} {tb : TS} {D : Ends} {σ : St} {H : Hp} (Pv : Nat → St → Hp → Prop) (h0 : Pv 0 σ H) (hgo : ∀ i σ H, i < n → Pv i σ H → J.go i H) (hst : ∀ σ H, Pv n σ H → J.stop n H)
    (hs : ∀ i σ H x H', i < n → Pv i σ H → J.yld i H x H' → g x σ H' fun σ2 H2 => tb { D with nx := Pv (i + 1), ct := Pv (i + 1), bk := D.nx } σ2 H2) (hd : ∀ σ H, Pv n σ H → D.nx σ H) :
    ∃ W : Nat → Nat → St → Hp → Prop, (∃ m, W 0 m σ H) ∧ ∀ i m σ H, W i m σ H →
      (J.stop i H ∧ D.nx σ H) ∨ (J.go i H ∧ ∃ N : St → Hp → Prop, (∀ σ' H', N σ' H' → ∃ m', m' < m ∧ W (i + 1) m' σ' H') ∧ ∀ x H', J.yld i H x H' → g x σ H' fun σ2 H2 => tb { D with nx := N, ct := N, bk := D.nx } σ2 H2) := by
  refine ⟨fun i m σ H => m = n - i ∧ i ≤ n ∧ Pv i σ H, ⟨n, by simp, Nat.zero_le _, h0⟩, ?_⟩
  rintro i m σ H ⟨rfl, hi, p⟩
  by_cases hlt : i < n
  · exact .inr ⟨hgo i σ H hlt p, Pv (i + 1), fun σ' H' p' => ⟨n - (i + 1), by omega, rfl, hlt, p'⟩, fun x H' y => hs i σ H x H' hlt p y⟩
  · have e : i = n := by omega
    subst e
    exact .inl ⟨hst σ H p, hd σ H p⟩
theorem lc_gen {J : It} {n : Nat} {g : TG} {tt : TT} {te : TE} {vs : List Nat} {σ : St} {H1 : Hp} {D : Addr} {Qd : Hp → Prop} (ys : List V) (hn : ys.length = n) (hz : n ≤ sizeLine) (hD : H1 D = none)
    (hgo : ∀ i H, i < n → Same H1 H → J.go i H) (hst : ∀ H, Same H1 H → J.stop n H)
    (hs : ∀ i H x H' y, i < n → Same H1 H → J.yld i H x H' → ys[i]? = some y → Same H H' ∧ ∀ K : V → Hp → Prop, (∀ H4, Same H' H4 → K y H4) →
      g x (wipe σ vs) H' fun σ2 H2 => wipe σ2 vs = wipe σ vs ∧ tt σ2 H2 fun b H3 => if b = true then te σ2 H3 K else False)
    (hd : ∀ H, Same H1 H → H D = some (.lst ys) → Qd H)
    (mono : ∀ σ x H Q Q', (∀ s h, Q s h → Q' s h) → g x σ H Q → g x σ H Q') (mono2 : ∀ σ H Q Q', (∀ b h, Q b h → Q' b h) → tt σ H Q → tt σ H Q') :
    ∃ W : Nat → Nat → Hp → Prop, (∃ m, W 0 m (upd H1 D (.lst []))) ∧ ∀ i m H, W i m H →
      (J.stop i H ∧ Qd H) ∨ (J.go i H ∧ ∃ Nx : Hp → Prop, (∀ H', Nx H' → ∃ m', m' < m ∧ W (i + 1) m' H') ∧ ∀ x H', J.yld i H x H' → g x (wipe σ vs) H' fun σ2 H2 => wipe σ2 vs = wipe σ vs ∧ tt σ2 H2 fun b H3 =>
        if b = true then te σ2 H3 fun y H4 => ∃ acc, H4 D = some (.lst acc) ∧ acc.length < sizeLine ∧ Nx (upd H4 D (.lst (acc ++ [y]))) else Nx H3) := by
  have up : ∀ {H : Hp} {l : List V}, Same H1 H → Same H1 (upd H D (.lst l)) := fun {H l} s b o e => by rw [upd_ne (ne_of_none e hD)]; exact s b o e
  refine ⟨fun i m H => m = n - i ∧ i ≤ n ∧ Same H1 H ∧ H D = some (.lst (ys.take i)), ⟨n, by simp, Nat.zero_le _, up (Same.refl H1), upd_same⟩, ?_⟩
  rintro i m H ⟨rfl, hi, s, d⟩
  by_cases hlt : i < n
  · refine .inr ⟨hgo i H hlt s, fun H' => Same H1 H' ∧ H' D = some (.lst (ys.take (i + 1))), fun H' p' => ⟨n - (i + 1), by omega, rfl, hlt, p'⟩, fun x H' yl => ?_⟩
    have hy : ys[i]? = some (ys[i]'(by rw [hn]; exact hlt)) := List.getElem?_eq_getElem _
    obtain ⟨s', q⟩ := hs i H x H' _ hlt s yl hy
    refine mono _ _ _ _ _ (fun σ2 H2 z => ⟨z.1, mono2 _ _ _ _ (fun b H3 z2 => ?_) z.2⟩) (q (fun y H4 => ∃ acc, H4 D = some (.lst acc) ∧ acc.length < sizeLine ∧ Same H1 (upd H4 D (.lst (acc ++ [y]))) ∧ upd H4 D (.lst (acc ++ [y])) D = some (.lst (ys.take (i + 1)))) fun H4 s4 => ?_)
    · cases b with
      | true => exact z2
      | false => exact absurd z2 (by simp)
    · refine ⟨ys.take i, s4 _ _ (s' _ _ d), ?_, up (s.trans (s'.trans s4)), ?_⟩
      · rw [List.length_take]
        omega
      · rw [upd_same, List.take_succ, hy]
        rfl
  · have e : i = n := by omega
    subst e
    rw [← hn, List.take_length] at d
    exact .inl ⟨hst H s, hd H s (by rw [d])⟩
theorem gName_mono (i : Nat) : ∀ σ x H (Q Q' : St → Hp → Prop), (∀ s h, Q s h → Q' s h) → gName i x σ H Q → gName i x σ H Q' := fun _ _ _ _ _ h z => h _ _ z
theorem tYes_mono : ∀ (σ : St) (H : Hp) (Q Q' : Bool → Hp → Prop), (∀ b h, Q b h → Q' b h) → tYes σ H Q → tYes σ H Q' := fun _ _ _ _ h z => h _ _ z
def BIG : Nat := (2 ^ 256) ^ 4
def CMulB (i j : Int) : Prop := i.natAbs < BIG ∧ j.natAbs < BIG
theorem CMulB.ok {i j : Int} (h : CMulB i j) : IntMulOk i j := by
  have b : ∀ k : Int, k.natAbs < BIG → Builtin.Int.intBits k ≤ 2 ^ 20 := fun k hk => by
    unfold BIG at hk
    rw [← Nat.pow_mul] at hk
    unfold Builtin.Int.intBits
    split
    · exact Nat.zero_le _
    · have : k.natAbs.log2 < 256 * 4 := by
        rcases Nat.eq_zero_or_pos k.natAbs with h0 | hp
        · rw [h0]; decide
        · exact (Nat.log2_lt (Nat.ne_of_gt hp)).mpr hk
      have e : (2 : Nat) ^ 20 = 1048576 := by decide
      omega
  exact IntMulOk.of_bits (b i h.1) (b j h.2)
theorem op_mulB {X : Cx} : OpR X (binaryOp .Mult) (rI CMulB fun i j => .int (i * j)) := opI fun _ _ _ _ _ _ _ hc q => mul_int q hc.ok
def RetL (H : Hp) (xs : List V) (Q : VK) : Prop := ∀ (H' : Hp) (p : Addr), Same H H' → H p = none → H' p = some (.lst xs) → Q (.ref p) H'
theorem RetL.of {H H1 : Hp} {xs : List V} {Q : VK} (r : RetL H xs Q) (s : Same H H1) : RetL H1 xs Q := fun H' p s' n e => r H' p (s.trans s') (s.free n) e
theorem Same.upd {H H' : Hp} {p : Addr} {o : HO} (s : Same H H') (n : H p = none) : Same H (upd H' p o) := fun b u e => by rw [upd_ne (ne_of_none e n)]; exact s b u e
theorem RetL.new {H H1 : Hp} {xs : List V} {Q : VK} (r : RetL H xs Q) (s : Same H H1) {p : Addr} (n : H1 p = none) : Q (.ref p) (L2.upd H1 p (.lst xs)) := r _ p (s.upd (s.free n)) (s.free n) upd_same
def Def (K : PySem.W.Frag) (mg : Str → Option Value) (x : Str) (st : Stmt) : Prop := ∃ (f : Addr) (fd : FuncData), Fun K x x st f fd ∧ mg x = some (.ref f)
def MDef (K : PySem.W.Frag) (C : Addr) (m qual : Str) (st : Stmt) : Prop := ∃ (f : Addr) (fd : FuncData), Fun K m qual st f fd ∧ Meth K C m f
def FnX (CX : CXT) (P : Program) (w : World) (K : PySem.W.Frag) (mg : Str → Option Value) (base : Heap) (x : Str) (k : Nat) (ps : List Str) (sp : Sp) : Prop :=
  ∃ (f : Addr) (fd : FuncData), FnOk P w K mg base CX k f fd ps sp ∧ mg x = some (.ref f) ∧ PySem.W.keepIn K (.ref f) = true ∧ Binds K fd ps []
abbrev Fn := FnX CX0
abbrev Fn1 (P : Program) (w : World) := FnX (CX1 P w) P w
def MtX (CX : CXT) (P : Program) (w : World) (K : PySem.W.Frag) (mg : Str → Option Value) (base : Heap) (C : Addr) (m : Str) (k : Nat) (ps : List Str) (sp : Sp) : Prop :=
  ∃ (f : Addr) (fd : FuncData), FnOk P w K mg base CX k f fd ps sp ∧ Meth K C m f ∧ Binds K fd ps []
abbrev Mt := MtX CX0
abbrev Mt1 (P : Program) (w : World) := MtX (CX1 P w) P w
def MtU (P : Program) (w : World) (K : PySem.W.Frag) (mg : Str → Option Value) (base : Heap) (C : Addr) (m : Str) (k : Nat) (ps : List Str) (sp : Sp) : Prop :=
  ∃ (f : Addr) (fd : FuncData), FnOkU P w K mg base k f fd ps sp ∧ Meth K C m f ∧ Binds K fd ps []
def BindsOf (x qual : Str) (st : Stmt) (ps : List Str) : Prop :=
  ∀ (kV doc pm : Value) (an : Option Addr) (cdv ct : Value) (us : List Value), us.length = ps.length → bindArgs (PySem.W.fnOf x qual (defArgs st) (defBody st) (defScope st) .none kV doc pm an cdv ct) ⟨us, []⟩ = pure (ps.zip us)
theorem Def.fn {CX : CXT} {P : Program} {w : World} {K : PySem.W.Frag} {mg : Str → Option Value} {base : Heap} {x : Str} {st : Stmt} {k : Nat} {ps : List Str} {sp : Sp} (D : Def K mg x st) (hb : BindsOf x x st ps)
    (h : ∀ f fd, Fun K x x st f fd → FnOk P w K mg base CX k f fd ps sp) : FnX CX P w K mg base x k ps sp :=
  let ⟨f, fd, F, hm⟩ := D; ⟨f, fd, h f fd F, hm, F.kp, F.binds hb⟩
theorem MDef.mt {CX : CXT} {P : Program} {w : World} {K : PySem.W.Frag} {mg : Str → Option Value} {base : Heap} {C : Addr} {m qual : Str} {st : Stmt} {k : Nat} {ps : List Str} {sp : Sp} (D : MDef K C m qual st) (hb : BindsOf m qual st ps)
    (h : ∀ f fd, Fun K m qual st f fd → FnOk P w K mg base CX k f fd ps sp) : MtX CX P w K mg base C m k ps sp :=
  let ⟨f, fd, F, hm⟩ := D; ⟨f, fd, h f fd F, hm, F.binds hb⟩
theorem MDef.mu {P : Program} {w : World} {K : PySem.W.Frag} {mg : Str → Option Value} {base : Heap} {C : Addr} {m qual : Str} {st : Stmt} {k : Nat} {ps : List Str} {sp : Sp} (D : MDef K C m qual st) (hb : BindsOf m qual st ps)
    (h : ∀ f fd, Fun K m qual st f fd → FnOkU P w K mg base k f fd ps sp) : MtU P w K mg base C m k ps sp :=
  let ⟨f, fd, F, hm⟩ := D; ⟨f, fd, h f fd F, hm, F.binds hb⟩
section
variable {X : Cx} {CX : CXT} {k j : Nat} {C : Addr} {ps : List Str} {sp : Sp} {E : XK} {x m : Str} {p pos apos : Pos} {e o : Expr} {es : List Expr} {ta : TE} {t : TA}
theorem pe_fnX (F : FnX CX X.prog X.w X.K X.mg X.base x k ps sp) (hr : Room j X.A) (hj : k ≤ j) (hx : Passes CX X E) (ha : PA X (e :: es) t) (hg : Gl X x := by rfl) (hdb : (x == ("__debug__" : Str)) = false := by decide)
    (he : starEach (e :: es) X.env = (false, eval e X.env) :: starEach es X.env := by rfl) (hpl : (backTo pos (starEach es X.env)).any (·.1) = false := by rfl) : PE X (.Call (.Name x p) (e :: es) [] pos) (tCall sp [] E t) := by
  obtain ⟨f, fd, G, hm, kp, b⟩ := F
  exact pe_call G (hr.mono hj) hg hm kp b .nil hx ha hdb he hpl
theorem pe_fn (F : Fn X.prog X.w X.K X.mg X.base x k ps sp) (hr : Room j X.A) (ha : PA X (e :: es) t) (hj : k ≤ j := by decide) (hg : Gl X x := by rfl) (hdb : (x == ("__debug__" : Str)) = false := by decide)
    (he : starEach (e :: es) X.env = (false, eval e X.env) :: starEach es X.env := by rfl) (hpl : (backTo pos (starEach es X.env)).any (·.1) = false := by rfl) : PE X (.Call (.Name x p) (e :: es) [] pos) (tCall sp [] E0 t) := pe_fnX F hr hj pass0 ha hg hdb he hpl
theorem pe_fn0 (F : Fn X.prog X.w X.K X.mg X.base x k ps sp) (hr : Room j X.A) (hj : k ≤ j := by decide) (hg : Gl X x := by rfl) (hdb : (x == ("__debug__" : Str)) = false := by decide) : PE X (.Call (.Name x p) [] [] pos) (tCall sp [] E0 tNil) := by
  obtain ⟨f, fd, G, hm, kp, b⟩ := F
  exact pe_call0 G (hr.mono hj) hg hm kp b .nil pass0 hdb
theorem pe_mtX {pl : Sem Bool} (he : PE X o ta) (c : Cls X.K C) (F : MtX CX X.prog X.w X.K X.mg X.base C m k ps sp) (hr : Room j X.A) (hj : k ≤ j) (hx : Passes CX X E) (ha : PA X (e :: es) t)
    (hst : starEach (e :: es) X.env = (false, eval e X.env) :: starEach es X.env := by rfl) (hpl : (backTo pos (starEach es X.env)).any (·.1) = false := by rfl)
    (ht : eval (.Call (.Attribute o m apos) (e :: es) [] pos) X.env = (do
      let ov ← eval o X.env
      standAt apos.atName
      let (f, first) ← holding [ov] (getMethod ov m pl)
      callWith pos f first (backTo pos (starEach (e :: es) X.env)) (backToKw pos (keywordEach [] X.env))) := by rfl) :
    PE X (.Call (.Attribute o m apos) (e :: es) [] pos) (tMeth C m sp [] E ta t) := by
  obtain ⟨f, fd, G, hm, b⟩ := F
  exact pe_meth he c hm G (hr.mono hj) b .nil hx ha hst hpl ht
theorem pe_mtX0 {pl : Sem Bool} (he : PE X o ta) (c : Cls X.K C) (F : MtX CX X.prog X.w X.K X.mg X.base C m k ps sp) (hr : Room j X.A) (hj : k ≤ j) (hx : Passes CX X E)
    (ht : eval (.Call (.Attribute o m apos) [] [] pos) X.env = (do
      let ov ← eval o X.env
      standAt apos.atName
      let (f, first) ← holding [ov] (getMethod ov m pl)
      callWith pos f first (backTo pos (starEach [] X.env)) (backToKw pos (keywordEach [] X.env))) := by rfl) :
    PE X (.Call (.Attribute o m apos) [] [] pos) (tMeth C m sp [] E ta tNil) := by
  obtain ⟨f, fd, G, hm, b⟩ := F
  exact pe_meth0 he c hm G (hr.mono hj) b .nil hx ht
theorem pe_mtU0 {pl : Sem Bool} (he : PE X o ta) (c : Cls X.K C) (F : MtU X.prog X.w X.K X.mg X.base C m k ps sp) (hr : RoomU j X.A) (hj : k ≤ j)
    (ht : eval (.Call (.Attribute o m apos) [] [] pos) X.env = (do
      let ov ← eval o X.env
      standAt apos.atName
      let (f, first) ← holding [ov] (getMethod ov m pl)
      callWith pos f first (backTo pos (starEach [] X.env)) (backToKw pos (keywordEach [] X.env))) := by rfl) :
    PE X (.Call (.Attribute o m apos) [] [] pos) (tMeth C m sp [] E0 ta tNil) := by
  obtain ⟨f, fd, G, hm, b⟩ := F
  exact pe_meth0U he c hm G (hr.mono hj) b ht
theorem px_mt0 {pl : Sem Bool} (he : PE X.nox o ta) (c : Cls X.K C) (F : Mt1 X.prog X.w X.K X.mg X.base C m k ps sp) (hr : Room j X.A) (hj : k ≤ j)
    (ht : eval (.Call (.Attribute o m apos) [] [] pos) X.env = (do
      let ov ← eval o X.env
      standAt apos.atName
      let (f, first) ← holding [ov] (getMethod ov m pl)
      callWith pos f first (backTo pos (starEach [] X.env)) (backToKw pos (keywordEach [] X.env))) := by rfl) :
    PX X (.Call (.Attribute o m apos) [] [] pos) (tMethX C m sp ta tNil) := by
  obtain ⟨f, fd, G, hm, b⟩ := F
  exact px_meth0 he c hm G (hr.mono hj) b ht
theorem pe_gint {i : Int} (h : ∃ t, X.mg x = some (.int i t)) (hg : Gl X x := by rfl) (hdb : (x == ("__debug__" : Str)) = false := by decide) : PE X (.Name x p) (tC (.int i)) := by
  obtain ⟨t, hm⟩ := h
  exact pe_glob hg hm ⟨t, rfl⟩ hdb
end
theorem lk_eq {k : Str} {v : V} {es : List (Str × V)} : List.lookup k ((k, v) :: es) = some v := by
  rw [List.lookup_cons, beq_self_eq_true]
theorem lk_ne {k k' : Str} {v : V} {es : List (Str × V)} (h : (k == k') = false) : List.lookup k ((k', v) :: es) = List.lookup k es := by
  rw [List.lookup_cons, h]
theorem lk_none {m : Str} : ∀ {fs : List (Str × V)}, ((fs.map Prod.fst).all fun x => !(m == x)) = true → fs.lookup m = none
  | [], _ => rfl
  | (k, v) :: fs, h => by
    rw [List.map_cons, List.all_cons, Bool.and_eq_true] at h
    rw [lk_ne (by simpa using h.1)]
    exact lk_none h.2
theorem pf_eq {f : Str} {v x : V} {r : List (Str × V)} : putF f v ((f, x) :: r) = (f, v) :: r := by
  show (if f = f then _ else _) = _
  rw [if_pos rfl]
theorem pf_ne {f g : Str} {v x : V} {r : List (Str × V)} (h : (g == f) = false) : putF f v ((g, x) :: r) = (g, x) :: putF f v r := by
  show (if g = f then _ else _) = _
  rw [if_neg (beq_eq_false_iff_ne.mp h)]
theorem pf_nil {f : Str} {v : V} : putF f v [] = [(f, v)] := rfl
def Cells (H : Hp) (L : List (Addr × HO)) : Prop := (L.map Prod.fst).Nodup ∧ ∀ x ∈ L, H x.1 = some x.2
def Keep (H H' : Hp) (A : List Addr) : Prop := ∀ b u, H b = some u → b ∉ A → H' b = some u
theorem Keep.of_same {H H' : Hp} {A : List Addr} (s : Same H H') : Keep H H' A := fun b u e _ => s b u e
theorem Keep.trans {H H1 H2 : Hp} {A B : List Addr} (k : Keep H H1 A) (k2 : Keep H1 H2 B) (h : ∀ b ∈ B, b ∈ A ∨ H b = none) : Keep H H2 A := fun b u e n =>
  k2 b u (k b u e n) fun z => by
    rcases h b z with q | q
    · exact n q
    · rw [q] at e; cases e
theorem Keep.trans_same {H H1 H2 : Hp} {A : List Addr} (k : Keep H H1 A) (s : Same H1 H2) : Keep H H2 A := fun b u e n => s b u (k b u e n)
theorem Keep.of_upd {H : Hp} {a : Addr} {o : HO} : Keep H (upd H a o) [a] := fun b u e n => by rw [upd_ne (fun z => n (by rw [z]; exact List.mem_singleton_self _))]; exact e
theorem Keep.upd_in {H H1 : Hp} {A : List Addr} {a : Addr} {o : HO} (k : Keep H H1 A) (h : a ∈ A ∨ H a = none) : Keep H (upd H1 a o) A :=
  k.trans Keep.of_upd fun b hb => by rw [List.mem_singleton.mp hb]; exact h
theorem Keep.free {H H' : Hp} {A : List Addr} (k : Keep H H' A) {b : Addr} (h : H' b = none) : H b = none ∨ b ∈ A := by
  by_cases hb : b ∈ A
  · exact .inr hb
  · cases e : H b with
    | none => exact .inl rfl
    | some u => rw [k b u e hb] at h; cases h
theorem Cells.at_ {H : Hp} {L : List (Addr × HO)} (c : Cells H L) (i : Nat) {a : Addr} {o : HO} (h : L[i]? = some (a, o)) : H a = some o := c.2 (a, o) (List.mem_of_getElem? h)
theorem Cells.same {H H' : Hp} {L : List (Addr × HO)} (c : Cells H L) (s : Same H H') : Cells H' L := ⟨c.1, fun x hx => s _ _ (c.2 x hx)⟩
theorem Cells.notin {H : Hp} {L : List (Addr × HO)} (c : Cells H L) {p : Addr} (h : H p = none) : p ∉ L.map Prod.fst := fun z => by
  obtain ⟨x, hx, rfl⟩ := List.mem_map.mp z
  rw [c.2 x hx] at h
  cases h
theorem Cells.nil (H : Hp) : Cells H [] := ⟨List.nodup_nil, fun x hx => nomatch hx⟩
theorem Cells.cons {H : Hp} {L : List (Addr × HO)} (c : Cells H L) {p : Addr} {o : HO} (n : p ∉ L.map Prod.fst) (e : H p = some o) : Cells H ((p, o) :: L) :=
  ⟨List.nodup_cons.mpr ⟨n, c.1⟩, fun x hx => by
    rcases List.mem_cons.mp hx with z | z
    · rw [z]; exact e
    · exact c.2 x z⟩
theorem Cells.push {H H' : Hp} {L : List (Addr × HO)} (c : Cells H L) {p : Addr} {o : HO} (s : Same H H') (n : H p = none) (e : H' p = some o) : Cells H' ((p, o) :: L) := (c.same s).cons (c.notin n) e
theorem Cells.sub {H : Hp} {L L' : List (Addr × HO)} (c : Cells H L) (s : L'.Sublist L) : Cells H L' := ⟨c.1.sublist (s.map _), fun x hx => c.2 x (s.subset hx)⟩
theorem map_fst_set {L : List (Addr × HO)} {i : Nat} {a : Addr} {o o' : HO} (h : L[i]? = some (a, o)) : (L.set i (a, o')).map Prod.fst = L.map Prod.fst := by
  rw [List.map_set]
  apply List.ext_getElem?
  intro j
  rw [List.getElem?_set]
  by_cases hj : i = j
  · subst hj
    have hl := (List.getElem?_eq_some_iff.mp h).1
    rw [if_pos rfl, if_pos (by rw [List.length_map]; exact hl), List.getElem?_map, h]
    rfl
  · rw [if_neg hj]
theorem nodup_ne {α : Type} : ∀ {l : List α} {i j : Nat} {x y : α}, l.Nodup → l[i]? = some x → l[j]? = some y → i ≠ j → x ≠ y := by
  intro l i j x y hn hi hj hij e
  subst e
  exact hij (nd_ix hn hi hj)
theorem nodup_set {α : Type} {p : α} : ∀ {l : List α} {i : Nat}, l.Nodup → p ∉ l → (l.set i p).Nodup
  | [], _, _, _ => List.nodup_nil
  | a :: l, 0, h, n => List.nodup_cons.mpr ⟨fun z => n (List.mem_cons_of_mem _ z), (List.nodup_cons.mp h).2⟩
  | a :: l, i + 1, h, n => List.nodup_cons.mpr ⟨fun z => by
      rcases List.mem_or_eq_of_mem_set z with q | q
      · exact (List.nodup_cons.mp h).1 q
      · exact n (by rw [q]; exact List.mem_cons_self ..), nodup_set (List.nodup_cons.mp h).2 fun z => n (List.mem_cons_of_mem _ z)⟩
theorem Cells.ne {H : Hp} {L : List (Addr × HO)} (c : Cells H L) (i j : Nat) {a b : Addr} {o u : HO} (hi : L[i]? = some (a, o)) (hj : L[j]? = some (b, u)) (h : i ≠ j) : a ≠ b :=
  nodup_ne c.1 (by rw [List.getElem?_map, hi]; rfl) (by rw [List.getElem?_map, hj]; rfl) h
theorem mem_set_cases {α : Type} {L : List α} {i : Nat} {y x : α} (h : x ∈ L.set i y) : x = y ∨ ∃ j, j ≠ i ∧ L[j]? = some x := by
  obtain ⟨j, hj⟩ := List.mem_iff_getElem?.mp h
  rw [List.getElem?_set] at hj
  by_cases e : i = j
  · subst e
    rw [if_pos rfl] at hj
    split at hj
    · exact .inl (Option.some.inj hj).symm
    · cases hj
  · rw [if_neg e] at hj
    exact .inr ⟨j, fun z => e z.symm, hj⟩
theorem Cells.put {H H' : Hp} {L : List (Addr × HO)} (c : Cells H L) (i : Nat) {a : Addr} {o o' : HO} (h : L[i]? = some (a, o)) (k : Keep H H' [a]) (e : H' a = some o') : Cells H' (L.set i (a, o')) := by
  refine ⟨by rw [map_fst_set h]; exact c.1, fun x hx => ?_⟩
  rcases mem_set_cases hx with z | ⟨j, hj, z⟩
  · rw [z]; exact e
  · exact k _ _ (c.2 x (List.mem_of_getElem? z)) fun w => c.ne j i z h hj (List.mem_singleton.mp w)
theorem Cells.putU {H : Hp} {L : List (Addr × HO)} (c : Cells H L) (i : Nat) {a : Addr} {o : HO} (o' : HO) (h : L[i]? = some (a, o)) : Cells (upd H a o') (L.set i (a, o')) := c.put i h Keep.of_upd upd_same
theorem Cells.repl {H : Hp} {L : List (Addr × HO)} (c : Cells H L) (i : Nat) {p : Addr} {o : HO} (n : p ∉ L.map Prod.fst ∨ ∃ u, L[i]? = some (p, u)) (e : H p = some o) : Cells H (L.set i (p, o)) := by
  rcases n with n | ⟨u, n⟩
  · refine ⟨?_, fun x hx => ?_⟩
    · rw [List.map_set]
      exact nodup_set c.1 n
    · rcases mem_set_cases hx with z | ⟨j, _, z⟩
      · rw [z]; exact e
      · exact c.2 x (List.mem_of_getElem? z)
  · refine ⟨by rw [map_fst_set n]; exact c.1, fun x hx => ?_⟩
    rcases mem_set_cases hx with z | ⟨j, _, z⟩
    · rw [z]; exact e
    · exact c.2 x (List.mem_of_getElem? z)
def MkX (P : Program) (w : World) (K : PySem.W.Frag) (mg : Str → Option Value) (base : Heap) (x : Str) (C : Addr) (k : Nat) (ps : List Str) (sp : Sp) : Prop :=
  ∃ (f : Addr) (fd : FuncData), Mk K C f ∧ FnOk P w K mg base CX0 k f fd ps sp ∧ Binds K fd ps [] ∧ mg x = some (.ref C)
section
variable {X : Cx} {k j : Nat} {C : Addr} {ps : List Str} {sp : Sp} {x : Str} {p pos : Pos} {e : Expr} {es : List Expr} {t : TA}
theorem pe_mk (M : MkX X.prog X.w X.K X.mg X.base x C k ps sp) (hr : Room j X.A) (ha : PA X (e :: es) t) (hj : k + 1 ≤ j := by decide) (hg : Gl X x := by rfl) (hdb : (x == ("__debug__" : Str)) = false := by decide)
    (he : starEach (e :: es) X.env = (false, eval e X.env) :: starEach es X.env := by rfl) (hpl : (backTo pos (starEach es X.env)).any (·.1) = false := by rfl) : PE X (.Call (.Name x p) (e :: es) [] pos) (tMake C sp [] E0 t) := by
  obtain ⟨f, fd, M, F, b, hm⟩ := M
  exact pe_make M F (hr.mono hj) hg hm b .nil pass0 ha hdb he hpl
theorem pe_mk0 (M : MkX X.prog X.w X.K X.mg X.base x C k ps sp) (hr : Room j X.A) (hj : k + 1 ≤ j := by decide) (hg : Gl X x := by rfl) (hdb : (x == ("__debug__" : Str)) = false := by decide) : PE X (.Call (.Name x p) [] [] pos) (tMake C sp [] E0 tNil) := by
  obtain ⟨f, fd, M, F, b, hm⟩ := M
  exact pe_make0 M F (hr.mono hj) hg hm b .nil pass0 hdb
end
theorem made_same {H : Hp} {x dx C : Addr} (hx : H x = none) (hd : H dx = none) : Same H (upd (upd H dx (.own x)) x (.ins C dx [])) := ((Same.refl H).upd hd).upd hx
def TabK (K : PySem.W.Frag) (d : Addr) (f : Int → Option Value) : Prop := ∀ h : Heap, K.In h → h.IntMap d f
def tTab (K : PySem.W.Frag) (d : Addr) (ty : TE) : TE := fun σ H Q => ty σ H fun y H1 => ∃ i f u v, y = .int i ∧ TabK K d f ∧ f i = some u ∧ RelV v u ∧ Q v H1
section
variable {X : Cx} {x : Str} {i : Expr} {pos p : Pos} {ty : TE} {d : Addr}
theorem pe_tab (hm : X.mg x = some (.ref d)) (hi : PE X i ty) (hs : NoSl i) (hg : Gl X x := by rfl) (hdb : (x == ("__debug__" : Str)) = false := by decide) : PE X (.Subscript (.Name x p) i pos) (tTab X.K d ty) := by
  intro pins s σ H Q I h
  refine subD_of PySem.F.slot_dict_getitem.lookup hs (ld_glob I hg hm (thn (hi pins s σ H _ I h) fun iv s2 ⟨y, H2, I2, ry, k, f, u, v, ey, T, hf, rv, q2⟩ => ?_) hdb)
  subst ey
  obtain ⟨t, rfl⟩ := ry
  have m := T _ I2.kIn
  exact ⟨m.typeIs, wpAny_getItem_intMap m hf ⟨v, H2, I2.tok _, rv, q2⟩⟩
end
def tCallV (P : Program) (w : World) (K : PySem.W.Frag) (mg : Str → Option Value) (base : Heap) (j : Nat) (tf : TE) (t : TA) : TE := fun σ H Q => tf σ H fun x H1 => ∃ (f : Addr) (fd : FuncData) (k : Nat) (ps : List Str) (sp : Sp),
  x = .ref f ∧ FnOk P w K mg base CX0 k f fd ps sp ∧ k ≤ j ∧ PySem.W.keepIn K (.ref f) = true ∧ Binds K fd ps [] ∧ t σ H1 fun vs H2 => sp vs H2 Q E0
section
variable {X : Cx} {x : Str} {p pos : Pos} {e : Expr} {es : List Expr} {tf : TE} {t : TA} {j : Nat}
theorem pe_callv (hf : PE X (.Name x p) tf) (hr : Room j X.A) (ha : PA X (e :: es) t)
    (he : starEach (e :: es) X.env = (false, eval e X.env) :: starEach es X.env := by rfl) (hpl : (backTo pos (starEach es X.env)).any (·.1) = false := by rfl) :
    PE X (.Call (.Name x p) (e :: es) [] pos) (tCallV X.prog X.w X.K X.mg X.base j tf t) := by
  intro pins s σ H Q I h
  refine wpAny_Call_Name_kw (thn (hf pins s σ H _ I h) fun u s0 ⟨y, H0, I0, ry, f, fd, k, ps, sp, ey, F, hk, kp, b, q⟩ => ?_)
  subst ey
  obtain rfl : u = Value.ref f := ry
  refine PySem.W.callWith_K (h₀ := X.base) I.ok.mod.kin kp (thn (ha pos pins s0 σ H0 _ I0 q) fun us s1 ⟨vs, H1, I1, r, q1⟩ => ⟨I1.kIn, ?_⟩) he hpl
  exact run_fn (dvs := []) (ds := []) F (hr.mono hk) b .nil pass0 I1 r (by rw [List.append_nil]; exact q1)
end
theorem Same.tupl {K : PySem.W.Frag} {H H' : Hp} {a : Addr} {xs : List V} (s : Same H H') (h : SqT K H a xs) : SqT K H' a xs := by
  rcases h with h | h
  · left
    rcases h with h | ⟨o, h⟩
    · exact .inl (s _ _ h)
    · exact .inr ⟨o, s _ _ h⟩
  · exact .inr h
def Rais (C : Addr) (E : XK) (H : Hp) : Prop := ∀ H', Same H H' → E (.ref C) none H'
theorem Rais.of {C : Addr} {E : XK} {H H1 : Hp} (r : Rais C E H) (s : Same H H1) : Rais C E H1 := fun H' s' => r H' (s.trans s')
end L2
namespace M
open Sf83
theorem le_len : ∀ (n x : Nat), (le n x).length = n
  | 0, _ => rfl
  | n + 1, x => by show (le n (x / 256)).length + 1 = n + 1; rw [le_len]
theorem le_eq : ∀ (n x : Nat), le n x = (List.range n).map fun i => UInt8.ofNat (x / 256 ^ i % 256)
  | 0, _ => rfl
  | n + 1, x => by
    show UInt8.ofNat (x % 256) :: le n (x / 256) = _
    rw [le_eq n, List.range_succ_eq_map, List.map_cons, List.map_map]
    congr 1
    · rw [Nat.pow_zero, Nat.div_one]
    · apply List.map_congr_left
      intro i _
      show UInt8.ofNat (x / 256 / 256 ^ i % 256) = UInt8.ofNat (x / 256 ^ (i + 1) % 256)
      rw [Nat.div_div_eq_div_mul, Nat.pow_succ, Nat.mul_comm 256]
theorem byte_of (k : Nat) : (UInt8.ofNat (k % 256)).toNat = k % 256 := by
  rw [UInt8.toNat_ofNat']
  omega
theorem le_nums (n x : Nat) : nums (le n x) = (List.range n).map fun i => x / 256 ^ i % 256 := by
  unfold nums
  rw [le_eq, List.map_map]
  apply List.map_congr_left
  intro i _
  exact byte_of _
theorem ofLe_append : ∀ (a b : Bytes), ofLe (a ++ b) = ofLe a + 256 ^ a.length * ofLe b
  | [], b => by show ofLe b = 0 + 256 ^ 0 * ofLe b; omega
  | c :: a, b => by
    show c.toNat + 256 * ofLe (a ++ b) = c.toNat + 256 * ofLe a + 256 ^ (a.length + 1) * ofLe b
    rw [ofLe_append a b, Nat.pow_succ, Nat.mul_add]
    have e : 256 * (256 ^ a.length * ofLe b) = 256 ^ a.length * 256 * ofLe b := by
      rw [Nat.mul_comm (256 ^ a.length) 256, Nat.mul_assoc]
    omega
theorem ofLe_lt : ∀ b : Bytes, ofLe b < 256 ^ b.length
  | [] => by decide
  | c :: b => by
    show c.toNat + 256 * ofLe b < 256 ^ (b.length + 1)
    have h := ofLe_lt b
    have hc : c.toNat < 256 := c.toNat_lt
    rw [Nat.pow_succ]
    omega
theorem ofLe_drop {b : Bytes} {i : Nat} {c : UInt8} (h : b[i]? = some c) : ofLe (b.drop i) = ofLe (b.drop (i + 1)) * 256 + c.toNat := by
  obtain ⟨hi, e⟩ := List.getElem?_eq_some_iff.mp h
  rw [List.drop_eq_getElem_cons hi, e]
  show c.toNat + 256 * _ = _
  omega
theorem wordsOf_len : ∀ (n : Nat) (b : Bytes), (wordsOf n b).length = n
  | 0, _ => rfl
  | n + 1, b => by show (wordsOf n (b.drop 4)).length + 1 = n + 1; rw [wordsOf_len]
theorem wordsOf_eq : ∀ (n : Nat) (b : Bytes), wordsOf n b = (List.range n).map fun i => ofLe ((b.drop (4 * i)).take 4)
  | 0, _ => rfl
  | n + 1, b => by
    show ofLe (b.take 4) :: wordsOf n (b.drop 4) = _
    rw [wordsOf_eq n, List.range_succ_eq_map, List.map_cons, List.map_map]
    congr 1
    apply List.map_congr_left
    intro i _
    show ofLe (((b.drop 4).drop (4 * i)).take 4) = ofLe ((b.drop (4 * (i + 1))).take 4)
    rw [List.drop_drop, show 4 + 4 * i = 4 * (i + 1) by omega]
theorem wordsOf_lt (n : Nat) (b : Bytes) : ∀ w ∈ wordsOf n b, w < W := by
  intro w hw
  rw [wordsOf_eq] at hw
  obtain ⟨i, _, rfl⟩ := List.mem_map.mp hw
  have h := ofLe_lt ((b.drop (4 * i)).take 4)
  have hl : ((b.drop (4 * i)).take 4).length ≤ 4 := by rw [List.length_take]; omega
  have h2 : 256 ^ ((b.drop (4 * i)).take 4).length ≤ 256 ^ 4 := Nat.pow_le_pow_right (by decide) hl
  have h3 : (256 : Nat) ^ 4 = W := by decide
  omega
theorem turned_lt {x n : Nat} (hx : x < W) (hn : n ≤ 32) : turned x n < W := by
  unfold turned
  have e : W = 2 ^ 32 := rfl
  rw [e] at hx ⊢
  refine Nat.or_lt_two_pow (Nat.mod_lt _ (by decide)) ?_
  exact Nat.lt_of_le_of_lt (Nat.div_le_self _ _) hx
structure Four where
  a : Nat
  b : Nat
  c : Nat
  d : Nat
def four (q : Four) : Four :=
  let a1 := (q.a + q.b) % W
  let d1 := turned (q.d ^^^ a1) 16
  let c1 := (q.c + d1) % W
  let b1 := turned (q.b ^^^ c1) 12
  let a2 := (a1 + b1) % W
  let d2 := turned (d1 ^^^ a2) 8
  let c2 := (c1 + d2) % W
  let b2 := turned (b1 ^^^ c2) 7
  ⟨a2, b2, c2, d2⟩
def putFour (s : List Nat) (i j k l : Nat) (q : Four) : List Nat := (((s.set i q.a).set j q.b).set k q.c).set l q.d
theorem getD_set_self {s : List Nat} {i v : Nat} (h : i < s.length) : (s.set i v).getD i 0 = v := by
  simp [List.getD, h]
theorem getD_set_ne {s : List Nat} {i j v : Nat} (h : i ≠ j) : (s.set i v).getD j 0 = s.getD j 0 := by
  simp [List.getD, h]
theorem quarter_eq {s : List Nat} {i j k l : Nat} (hi : i < s.length) (hj : j < s.length) (hk : k < s.length) (hl : l < s.length) (nd : [i, j, k, l].Nodup) :
    quarter s (i, j, k, l) = putFour s i j k l (four ⟨s.getD i 0, s.getD j 0, s.getD k 0, s.getD l 0⟩) := by
  simp only [List.nodup_cons, List.mem_cons, List.not_mem_nil, or_false, not_or, List.nodup_nil, and_true, not_false_eq_true] at nd
  obtain ⟨⟨n1, n2, n3⟩, ⟨n4, n5⟩, n6⟩ := nd
  have m1 := Ne.symm n1
  have m2 := Ne.symm n2
  have m3 := Ne.symm n3
  have m4 := Ne.symm n4
  have m5 := Ne.symm n5
  have m6 := Ne.symm n6
  unfold quarter putFour four
  simp only [getD_set_self, getD_set_ne, List.length_set, hi, hj, hk, hl, n1, n2, n3, n4, n5, n6, m1, m2, m3, m4, m5, m6, ne_eq, not_false_eq_true]
  apply List.ext_getElem?
  intro x
  simp only [List.getElem?_set, List.length_set, hi, hj, hk, hl]
  by_cases x1 : i = x
  · subst x1; simp [m1, m2, m3, hi]
  · by_cases x2 : j = x
    · subst x2; simp [n1, m4, m5, hj]
    · by_cases x3 : k = x
      · subst x3; simp [n2, n4, m6, hk]
      · by_cases x4 : l = x
        · subst x4; simp [n3, n5, n6, hl]
        · simp [x1, x2, x3, x4]
end M
namespace M
open Sf83
def Words (s : List Nat) : Prop := s.length = 16 ∧ ∀ x ∈ s, x < W
theorem Words.getD {s : List Nat} (h : Words s) (i : Nat) : s.getD i 0 < W := by
  by_cases hi : i < s.length
  · have e : s.getD i 0 = s[i] := by simp [List.getD, hi]
    rw [e]
    exact h.2 _ (List.getElem_mem hi)
  · have e : s.getD i 0 = 0 := by
      unfold List.getD
      rw [List.getElem?_eq_none_iff.mpr (by omega)]
      rfl
    rw [e]
    decide
theorem xor_lt {x y : Nat} (hx : x < W) (hy : y < W) : x ^^^ y < W := Nat.xor_lt_two_pow (n := 32) hx hy
theorem mod_lt (x : Nat) : x % W < W := Nat.mod_lt _ (by decide)
theorem four_lt {q : Four} (h1 : q.a < W) (h2 : q.b < W) (h3 : q.c < W) (h4 : q.d < W) : (four q).a < W ∧ (four q).b < W ∧ (four q).c < W ∧ (four q).d < W := by
  have d1 := turned_lt (n := 16) (xor_lt h4 (mod_lt (q.a + q.b))) (by decide)
  have c1 := mod_lt (q.c + turned (q.d ^^^ ((q.a + q.b) % W)) 16)
  have b1 := turned_lt (n := 12) (xor_lt h2 c1) (by decide)
  have d2 := turned_lt (n := 8) (xor_lt d1 (mod_lt ((q.a + q.b) % W + turned (q.b ^^^ ((q.c + turned (q.d ^^^ ((q.a + q.b) % W)) 16) % W)) 12))) (by decide)
  refine ⟨mod_lt _, ?_, mod_lt _, d2⟩
  exact turned_lt (xor_lt b1 (mod_lt _)) (by decide)
theorem Words.set {s : List Nat} (h : Words s) {i v : Nat} (hv : v < W) : Words (s.set i v) := by
  refine ⟨by rw [List.length_set]; exact h.1, fun x hx => ?_⟩
  rcases List.mem_or_eq_of_mem_set hx with z | z
  · exact h.2 x z
  · rw [z]; exact hv
theorem Words.four {s : List Nat} (h : Words s) (i j k l : Nat) : Words (putFour s i j k l (four ⟨s.getD i 0, s.getD j 0, s.getD k 0, s.getD l 0⟩)) := by
  obtain ⟨h1, h2, h3, h4⟩ := four_lt (q := ⟨s.getD i 0, s.getD j 0, s.getD k 0, s.getD l 0⟩) (h.getD i) (h.getD j) (h.getD k) (h.getD l)
  exact (((h.set h1).set h2).set h3).set h4
def QS : List (Nat × Nat × Nat × Nat) := [(0, 4, 8, 12), (1, 5, 9, 13), (2, 6, 10, 14), (3, 7, 11, 15), (0, 5, 10, 15), (1, 6, 11, 12), (2, 7, 8, 13), (3, 4, 9, 14)]
def GoodQ (q : Nat × Nat × Nat × Nat) : Prop := q.1 < 16 ∧ q.2.1 < 16 ∧ q.2.2.1 < 16 ∧ q.2.2.2 < 16 ∧ [q.1, q.2.1, q.2.2.1, q.2.2.2].Nodup
instance (q : Nat × Nat × Nat × Nat) : Decidable (GoodQ q) := by unfold GoodQ; infer_instance
theorem goodQS : ∀ q ∈ QS, GoodQ q := by decide
theorem quarter_put {s : List Nat} (h : Words s) {q : Nat × Nat × Nat × Nat} (g : GoodQ q) :
    quarter s q = putFour s q.1 q.2.1 q.2.2.1 q.2.2.2 (four ⟨s.getD q.1 0, s.getD q.2.1 0, s.getD q.2.2.1 0, s.getD q.2.2.2 0⟩) := by
  obtain ⟨i, j, k, l⟩ := q
  obtain ⟨g1, g2, g3, g4, g5⟩ := g
  exact quarter_eq (by rw [h.1]; exact g1) (by rw [h.1]; exact g2) (by rw [h.1]; exact g3) (by rw [h.1]; exact g4) g5
theorem Words.quarter {s : List Nat} (h : Words s) {q : Nat × Nat × Nat × Nat} (g : GoodQ q) : Words (quarter s q) := by
  rw [quarter_put h g]
  exact h.four _ _ _ _
theorem Words.fold {s : List Nat} (h : Words s) : ∀ (l : List (Nat × Nat × Nat × Nat)), (∀ q ∈ l, GoodQ q) → Words (l.foldl Sf83.quarter s)
  | [], _ => h
  | q :: l, g => by
    show Words (l.foldl Sf83.quarter (Sf83.quarter s q))
    exact Words.fold (h.quarter (g q (List.mem_cons_self ..))) l fun x hx => g x (List.mem_cons_of_mem _ hx)
def turns : Nat → List Nat → List Nat
  | 0, s => s
  | n + 1, s => QS.foldl Sf83.quarter (turns n s)
theorem Words.turns {s : List Nat} (h : Words s) : ∀ n, Words (turns n s)
  | 0 => h
  | n + 1 => (Words.turns h n).fold QS goodQS
def iter {α : Type} (f : α → α) : Nat → α → α
  | 0, s => s
  | n + 1, s => f (iter f n s)
theorem foldl_iter {α : Type} (f : α → α) (s : α) : ∀ n, (List.range n).foldl (fun (s : α) (_ : Nat) => f s) s = iter f n s
  | 0 => rfl
  | n + 1 => by
    rw [List.range_succ, List.foldl_append, foldl_iter f s n]
    rfl
theorem turns_iter (s : List Nat) : ∀ n, turns n s = iter (fun s => QS.foldl Sf83.quarter s) n s
  | 0 => rfl
  | n + 1 => by
    show QS.foldl Sf83.quarter (turns n s) = QS.foldl Sf83.quarter (iter (fun s => QS.foldl Sf83.quarter s) n s)
    rw [turns_iter s n]
theorem rounds_eq (s : List Nat) : rounds s = turns 10 s := by
  rw [turns_iter]
  exact foldl_iter (fun s => QS.foldl Sf83.quarter s) s 10
theorem Words.rounds {s : List Nat} (h : Words s) : Words (rounds s) := by
  rw [rounds_eq]
  exact h.turns 10
theorem words_sigma : ∀ x ∈ SIGMA, x < W := by decide
theorem words_of {k : Bytes} {a b : List Nat} (hab : a.length + b.length = 4) (ha : ∀ x ∈ a, x < W) (hb : ∀ x ∈ b, x < W) : Words (SIGMA ++ (wordsOf 8 k ++ (a ++ b))) := by
  refine ⟨?_, fun x hx => ?_⟩
  · rw [List.length_append, List.length_append, List.length_append, wordsOf_len, hab]
    rfl
  · rcases List.mem_append.mp hx with h | h
    · exact words_sigma x h
    · rcases List.mem_append.mp h with h | h
      · exact wordsOf_lt 8 k x h
      · rcases List.mem_append.mp h with h | h
        · exact ha x h
        · exact hb x h
theorem words_block (k : Bytes) (n : Nat) (c : Bytes) : Words (SIGMA ++ (wordsOf 8 k ++ ((n % W) :: wordsOf 3 c))) :=
  words_of (a := [n % W]) (b := wordsOf 3 c) (by rw [wordsOf_len]; rfl) (fun x hx => by rw [List.mem_singleton.mp hx]; exact mod_lt n) (wordsOf_lt 3 c)
theorem words_derived (k b : Bytes) : Words (SIGMA ++ (wordsOf 8 k ++ wordsOf 4 b)) :=
  words_of (a := []) (b := wordsOf 4 b) (by rw [wordsOf_len]; rfl) (fun x hx => nomatch hx) (wordsOf_lt 4 b)
theorem flat_len : ∀ l : List Nat, ((l.map (le 4)).flatten).length = 4 * l.length
  | [] => rfl
  | x :: l => by
    rw [List.map_cons, List.flatten_cons, List.length_append, le_len, flat_len l, List.length_cons]
    omega
theorem zip_swap : ∀ (s r : List Nat), ((s.zip r).map fun (x : Nat × Nat) => le 4 ((x.1 + x.2) % W)) = (r.zip s).map (le 4 ∘ fun (x : Nat × Nat) => (x.1 + x.2) % W)
  | [], r => by rw [List.zip_nil_left, List.zip_nil_right]; rfl
  | a :: s, [] => rfl
  | a :: s, b :: r => by
    rw [List.zip_cons_cons, List.zip_cons_cons, List.map_cons, List.map_cons, zip_swap s r]
    show le 4 ((a + b) % W) :: _ = le 4 ((b + a) % W) :: _
    rw [Nat.add_comm]
theorem block_eq (k : Bytes) (n : Nat) (c : Bytes) : block k n c = (((((rounds (SIGMA ++ (wordsOf 8 k ++ ((n % W) :: wordsOf 3 c)))).zip (SIGMA ++ (wordsOf 8 k ++ ((n % W) :: wordsOf 3 c)))).map fun (x : Nat × Nat) => (x.1 + x.2) % W)).map (le 4)).flatten := by
  unfold block
  show ((((SIGMA ++ (wordsOf 8 k ++ ((n % W) :: wordsOf 3 c))).zip (rounds (SIGMA ++ (wordsOf 8 k ++ ((n % W) :: wordsOf 3 c))))).map fun (x : Nat × Nat) => le 4 ((x.1 + x.2) % W)).flatten) = _
  rw [List.map_map]
  exact congrArg List.flatten (zip_swap _ _)
theorem block_len (k : Bytes) (n : Nat) (c : Bytes) : (block k n c).length = 64 := by
  rw [block_eq, flat_len, List.length_map, List.length_zip, (words_block k n c).1, (words_block k n c).rounds.1]
  rfl
theorem derived_eq (k b : Bytes) : derived k b = (((rounds (SIGMA ++ (wordsOf 8 k ++ wordsOf 4 b))).take 4 ++ (rounds (SIGMA ++ (wordsOf 8 k ++ wordsOf 4 b))).drop 12).map (le 4)).flatten := rfl
theorem derived_len (k b : Bytes) : (derived k b).length = 32 := by
  rw [derived_eq, flat_len, List.length_append, List.length_take, List.length_drop, (words_derived k b).rounds.1]
  rfl
theorem mixed_len (k b : Bytes) : (mixed k b).length = 32 := derived_len _ _
theorem xored_len (a b : Bytes) : (xored a b).length = min a.length b.length := by
  unfold xored
  rw [List.length_map, List.length_zip]
theorem streamed_step (k c : Bytes) (f n : Nat) (b : Bytes) : streamed k c (f + 1) n b = if b = [] then [] else xored (b.take 64) (block k n c) ++ streamed k c f (n + 1) (b.drop 64) := rfl
theorem streamed_nil (k c : Bytes) : ∀ f n, streamed k c f n [] = []
  | 0, _ => rfl
  | f + 1, n => by rw [streamed_step, if_pos rfl]
def parts (k c b : Bytes) (i : Nat) : Bytes := xored ((b.drop (64 * i)).take 64) (block k (i + 1) c)
theorem streamed_parts (k c : Bytes) : ∀ (m f n : Nat) (b : Bytes), b.length ≤ 64 * m → m ≤ f → streamed k c f (n + 1) b = ((List.range m).map fun i => xored ((b.drop (64 * i)).take 64) (block k (n + i + 1) c)).flatten
  | 0, f, n, b, h, _ => by
    have e : b = [] := List.length_eq_zero_iff.mp (by omega)
    rw [e, streamed_nil]
    rfl
  | m + 1, 0, n, b, h, hf => by omega
  | m + 1, f + 1, n, b, h, hf => by
    have ih := streamed_parts k c m f (n + 1) (b.drop 64) (by rw [List.length_drop]; omega) (by omega)
    rw [List.range_succ_eq_map, List.map_cons, List.flatten_cons, List.map_map]
    have e2 : (List.range m).map ((fun i => xored ((b.drop (64 * i)).take 64) (block k (n + i + 1) c)) ∘ Nat.succ) = (List.range m).map fun i => xored (((b.drop 64).drop (64 * i)).take 64) (block k (n + 1 + i + 1) c) := by
      apply List.map_congr_left
      intro i _
      show xored ((b.drop (64 * (i + 1))).take 64) (block k (n + (i + 1) + 1) c) = _
      rw [List.drop_drop, show 64 * (i + 1) = 64 + 64 * i by omega, show n + (i + 1) + 1 = n + 1 + i + 1 by omega]
    rw [e2, ← ih, streamed_step]
    by_cases hb : b = []
    · subst hb
      rw [if_pos rfl, show (([] : Bytes).drop 64) = [] from rfl, streamed_nil]
      rfl
    · rw [if_neg hb, Nat.mul_zero, List.drop_zero]
theorem turnedBy_parts (k c b : Bytes) {m : Nat} (h : b.length ≤ 64 * m) (h2 : m ≤ b.length + 1) : turnedBy k c b = ((List.range m).map (parts k c b)).flatten := by
  unfold turnedBy
  have e := streamed_parts k c m (b.length + 1) 0 b h h2
  rw [Nat.zero_add] at e
  rw [e]
  refine congrArg List.flatten (List.map_congr_left fun i _ => ?_)
  unfold parts
  rw [Nat.zero_add]
theorem streamed_len (k c : Bytes) : ∀ (f n : Nat) (b : Bytes), b.length < f → (streamed k c f n b).length = b.length
  | 0, _, _, h => by omega
  | f + 1, n, b, h => by
    rw [streamed_step]
    by_cases hb : b = []
    · subst hb; rw [if_pos rfl]
    · have hl : 0 < b.length := List.length_pos_iff.mpr hb
      rw [if_neg hb, List.length_append, xored_len, block_len, List.length_take, streamed_len k c f (n + 1) (b.drop 64) (by rw [List.length_drop]; omega), List.length_drop]
      omega
theorem turnedBy_len (k c b : Bytes) : (turnedBy k c b).length = b.length := streamed_len k c _ _ b (Nat.lt_succ_self _)
theorem tag_len (k c a b : Bytes) : (tag k c a b).length = 16 := le_len _ _
theorem sealOf_len (k c a b : Bytes) : (sealOf k c a b).length = b.length + 16 := by
  show (turnedBy k c b ++ tag k c a (turnedBy k c b)).length = _
  rw [List.length_append, turnedBy_len, tag_len]
theorem point_len (k u : Bytes) : (point k u).length = 32 := le_len _ _
theorem summed_step (r f a : Nat) (b : Bytes) : summed r (f + 1) a b = if b = [] then a else summed r f ((a + ofLe (b.take 16) + 256 ^ (b.take 16).length) * r % Q) (b.drop 16) := rfl
theorem summed_nil (r : Nat) : ∀ f a, summed r f a [] = a
  | 0, _ => rfl
  | f + 1, a => by rw [summed_step, if_pos rfl]
def sums (r : Nat) (b : Bytes) : Nat → Nat
  | 0 => 0
  | i + 1 => (sums r b i + ofLe ((b.drop (16 * i)).take 16) + 256 ^ ((b.drop (16 * i)).take 16).length) * r % Q
theorem summed_from (r : Nat) (b : Bytes) : ∀ (m i f : Nat), b.length ≤ 16 * (i + m) → m ≤ f → (∀ j, j < m → 16 * (i + j) < b.length) → summed r f (sums r b i) (b.drop (16 * i)) = sums r b (i + m)
  | 0, i, f, h, _, _ => by
    have e : b.drop (16 * i) = [] := List.drop_eq_nil_of_le (by omega)
    rw [e, summed_nil]
    rfl
  | m + 1, i, 0, h, hf, _ => by omega
  | m + 1, i, f + 1, h, hf, hj => by
    have h0 := hj 0 (by omega)
    have hb : ¬ b.drop (16 * i) = [] := fun e => by
      have := congrArg List.length e
      rw [List.length_drop] at this
      simp at this
      omega
    rw [summed_step, if_neg hb, List.drop_drop, show 16 * i + 16 = 16 * (i + 1) by omega]
    have ih := summed_from r b m (i + 1) f (by omega) (by omega) fun j hjm => by have := hj (j + 1) (by omega); omega
    show summed r f (sums r b (i + 1)) (b.drop (16 * (i + 1))) = sums r b (i + (m + 1))
    rw [ih, show i + 1 + m = i + (m + 1) by omega]
theorem summed_all (r : Nat) (b : Bytes) : summed r (b.length + 1) 0 b = sums r b ((b.length + 15) / 16) := by
  have h := summed_from r b ((b.length + 15) / 16) 0 (b.length + 1) (by omega) (by omega) (fun j hj => by omega)
  rw [Nat.zero_add] at h
  exact h
end M
namespace M
open Sf83
def PI : Int := 57896044618658097711785492504343953926634992332820282019728792003956564819949
theorem PI_eq : (P : Int) = PI := by decide
theorem PI_pos : 0 < PI := by decide
theorem P_pos : 0 < P := by decide
theorem mulE {a a' b b' : Int} (h1 : a % PI = a' % PI) (h2 : b % PI = b' % PI) : (a * b) % PI = (a' * b') % PI := by rw [Int.mul_emod, h1, h2, ← Int.mul_emod]
theorem addE {a a' b b' : Int} (h1 : a % PI = a' % PI) (h2 : b % PI = b' % PI) : (a + b) % PI = (a' + b') % PI := by rw [Int.add_emod, h1, h2, ← Int.add_emod]
theorem subE {a a' b b' : Int} (h1 : a % PI = a' % PI) (h2 : b % PI = b' % PI) : (a - b) % PI = (a' - b') % PI := by rw [Int.sub_emod, h1, h2, ← Int.sub_emod]
theorem modE (a : Int) : a % PI % PI = a % PI := Int.emod_emod_of_dvd a (Int.dvd_refl PI)
theorem cast_mod (a : Nat) : ((a % P : Nat) : Int) = (a : Int) % PI := by rw [Int.natCast_emod, PI_eq]
theorem cast_minus (a b : Nat) : ((minus a b : Nat) : Int) = ((a : Int) - b) % PI := by
  unfold minus
  have hb : b % P < P := Nat.mod_lt _ P_pos
  rw [cast_mod]
  have e : ((a + P - b % P : Nat) : Int) = (a : Int) + PI - (b : Int) % PI := by
    rw [Int.natCast_sub (by omega), Int.natCast_add, cast_mod, PI_eq]
  rw [e]
  have h1 : ((a : Int) + PI - (b : Int) % PI) % PI = ((a : Int) + PI - b) % PI := subE rfl (modE b)
  rw [h1, show (a : Int) + PI - b = a - b + PI by omega, Int.add_emod_right]
def lstep (x a0 a1 b0 b1 : Int) : (Int × Int) × (Int × Int) :=
  let a := a0 + a1
  let b := a0 - a1
  let aa := a * a % PI
  let bb := b * b % PI
  let e := aa - bb
  let d := (b0 - b1) * a
  let c := (b0 + b1) * b
  ((aa * bb % PI, e * (aa + 121665 * e) % PI), ((d + c) * (d + c) % PI, x * ((d - c) * (d - c) % PI) % PI))
def rstep (x1 x2 z2 x3 z3 : Nat) : Nat × Nat × Nat × Nat :=
  let a := (x2 + z2) % P
  let b := minus x2 z2
  let aa := a * a % P
  let bb := b * b % P
  let e := minus aa bb
  let c := (x3 + z3) % P
  let d := minus x3 z3
  let da := d * a % P
  let cb := c * b % P
  let p := (da + cb) % P
  let q := minus da cb
  (aa * bb % P, e * (aa + 121665 * e) % P, p * p % P, x1 * (q * q % P) % P)
theorem rung_eq (x1 : Nat) (s : Nat × Nat × Nat × Nat) (bit : Bool) : rung x1 s bit =
    if bit = true then (let r := rstep x1 s.2.2.1 s.2.2.2 s.1 s.2.1; (r.2.2.1, r.2.2.2, r.1, r.2.1)) else rstep x1 s.1 s.2.1 s.2.2.1 s.2.2.2 := by
  obtain ⟨x2, z2, x3, z3⟩ := s
  cases bit
  · simp only [rung, rstep, Bool.false_eq_true, if_false]
  · simp only [rung, rstep, if_true]
theorem lstep_eq (x1 x2 z2 x3 z3 : Nat) : lstep x1 x2 z2 x3 z3 =
    ((((rstep x1 x2 z2 x3 z3).1 : Int), ((rstep x1 x2 z2 x3 z3).2.1 : Int)), (((rstep x1 x2 z2 x3 z3).2.2.1 : Int), ((rstep x1 x2 z2 x3 z3).2.2.2 : Int))) := by
  have ha : (((x2 + z2) % P : Nat) : Int) % PI = ((x2 : Int) + z2) % PI := by rw [cast_mod, modE, Int.natCast_add]
  have hb : ((minus x2 z2 : Nat) : Int) % PI = ((x2 : Int) - z2) % PI := by rw [cast_minus, modE]
  have haa : (((x2 + z2) % P * ((x2 + z2) % P) % P : Nat) : Int) = ((x2 : Int) + z2) * ((x2 : Int) + z2) % PI := by rw [cast_mod, Int.natCast_mul]; exact mulE ha ha
  have hbb : ((minus x2 z2 * minus x2 z2 % P : Nat) : Int) = ((x2 : Int) - z2) * ((x2 : Int) - z2) % PI := by rw [cast_mod, Int.natCast_mul]; exact mulE hb hb
  have he : ((minus ((x2 + z2) % P * ((x2 + z2) % P) % P) (minus x2 z2 * minus x2 z2 % P) : Nat) : Int) % PI = (((x2 : Int) + z2) * ((x2 : Int) + z2) % PI - ((x2 : Int) - z2) * ((x2 : Int) - z2) % PI) % PI := by
    rw [cast_minus, modE, haa, hbb]
  have hc : (((x3 + z3) % P : Nat) : Int) % PI = ((x3 : Int) + z3) % PI := by rw [cast_mod, modE, Int.natCast_add]
  have hd : ((minus x3 z3 : Nat) : Int) % PI = ((x3 : Int) - z3) % PI := by rw [cast_minus, modE]
  have hda : ((minus x3 z3 * ((x2 + z2) % P) % P : Nat) : Int) % PI = (((x3 : Int) - z3) * ((x2 : Int) + z2)) % PI := by rw [cast_mod, modE, Int.natCast_mul]; exact mulE hd ha
  have hcb : (((x3 + z3) % P * minus x2 z2 % P : Nat) : Int) % PI = (((x3 : Int) + z3) * ((x2 : Int) - z2)) % PI := by rw [cast_mod, modE, Int.natCast_mul]; exact mulE hc hb
  have hp : (((minus x3 z3 * ((x2 + z2) % P) % P + (x3 + z3) % P * minus x2 z2 % P) % P : Nat) : Int) % PI = (((x3 : Int) - z3) * ((x2 : Int) + z2) + ((x3 : Int) + z3) * ((x2 : Int) - z2)) % PI := by
    rw [cast_mod, modE, Int.natCast_add]; exact addE hda hcb
  have hq : ((minus (minus x3 z3 * ((x2 + z2) % P) % P) ((x3 + z3) % P * minus x2 z2 % P) : Nat) : Int) % PI = (((x3 : Int) - z3) * ((x2 : Int) + z2) - ((x3 : Int) + z3) * ((x2 : Int) - z2)) % PI := by
    rw [cast_minus, modE]; exact subE hda hcb
  unfold lstep rstep
  refine Prod.ext (Prod.ext ?_ ?_) (Prod.ext ?_ ?_)
  · show _ % PI = ((_ % P : Nat) : Int)
    rw [cast_mod, Int.natCast_mul, haa, hbb]
  · show _ % PI = ((_ % P : Nat) : Int)
    rw [cast_mod, Int.natCast_mul, Int.natCast_add, Int.natCast_mul, haa]
    exact (mulE he (addE rfl (mulE rfl he))).symm
  · show _ % PI = ((_ % P : Nat) : Int)
    rw [cast_mod, Int.natCast_mul]
    exact (mulE hp hp).symm
  · show _ % PI = ((_ % P : Nat) : Int)
    rw [cast_mod, Int.natCast_mul, cast_mod, Int.natCast_mul]
    refine mulE rfl ?_
    rw [modE, modE]
    exact (mulE hq hq).symm
def climb (n x : Nat) : Nat → Nat × Nat × Nat × Nat
  | 0 => (1, 0, x, 1)
  | i + 1 => rung x (climb n x i) (n.testBit (254 - i))
def Under (s : Nat × Nat × Nat × Nat) : Prop := s.1 < P ∧ s.2.1 < P ∧ s.2.2.1 < P ∧ s.2.2.2 < P
theorem rstep_under (x1 x2 z2 x3 z3 : Nat) : Under (rstep x1 x2 z2 x3 z3) := ⟨Nat.mod_lt _ P_pos, Nat.mod_lt _ P_pos, Nat.mod_lt _ P_pos, Nat.mod_lt _ P_pos⟩
theorem climb_under (n x : Nat) (hx : x < P) : ∀ i, Under (climb n x i)
  | 0 => ⟨by show 1 < P; decide, by show 0 < P; decide, hx, by show 1 < P; decide⟩
  | i + 1 => by
    show Under (rung x (climb n x i) (n.testBit (254 - i)))
    rw [rung_eq]
    generalize n.testBit (254 - i) = bit
    cases bit
    · rw [if_neg Bool.false_ne_true]
      exact rstep_under _ _ _ _ _
    · rw [if_pos rfl]
      obtain ⟨h1, h2, h3, h4⟩ := rstep_under x (climb n x i).2.2.1 (climb n x i).2.2.2 (climb n x i).1 (climb n x i).2.1
      exact ⟨h3, h4, h1, h2⟩
theorem climb_fold (n x : Nat) : ∀ m, (List.range m).foldl (fun (s : Nat × Nat × Nat × Nat) (i : Nat) => rung x s (n.testBit (254 - i))) (1, 0, x, 1) = climb n x m
  | 0 => rfl
  | m + 1 => by rw [List.range_succ, List.foldl_append, climb_fold n x m]; rfl
def scal (k : Bytes) : Nat := 2 ^ 254 + ofLe k % 2 ^ 254 / 8 * 8
def xof (u : Bytes) : Nat := ofLe u % 2 ^ 255 % P
theorem point_eq (k u : Bytes) : point k u = le 32 ((climb (scal k) (xof u) 255).1 * power 256 (climb (scal k) (xof u) 255).2.1 (P - 2) % P) := by
  rw [← climb_fold]
  rfl
theorem scal_bits (k : Bytes) : (ofLe k &&& 28948022309329048855892746252171976963317496166410141009864396001978282409976) ||| 28948022309329048855892746252171976963317496166410141009864396001978282409984 = scal k := by
  unfold scal
  generalize ofLe k = x
  have e1 : (28948022309329048855892746252171976963317496166410141009864396001978282409984 : Nat) = 2 ^ 254 := by decide
  have e2 : (28948022309329048855892746252171976963317496166410141009864396001978282409976 : Nat) = (2 ^ 251 - 1) <<< 3 := by decide
  have lt : x % 2 ^ 254 / 8 * 8 < 2 ^ 254 := by
    have h : x % 2 ^ 254 < 2 ^ 254 := Nat.mod_lt _ (by decide)
    omega
  rw [e1, e2, Nat.or_comm]
  have h3 : 2 ^ 254 + x % 2 ^ 254 / 8 * 8 = 2 ^ 254 * 1 ||| (x % 2 ^ 254 / 8 * 8) := by
    rw [← Nat.two_pow_add_eq_or_of_lt lt 1, Nat.mul_one]
  rw [h3, Nat.mul_one]
  congr 1
  apply Nat.eq_of_testBit_eq
  intro i
  have h8 : x % 2 ^ 254 / 8 * 8 = (x % 2 ^ 254 / 2 ^ 3) <<< 3 := by rw [Nat.shiftLeft_eq]
  rw [h8, Nat.testBit_and, Nat.testBit_shiftLeft, Nat.testBit_shiftLeft, Nat.testBit_two_pow_sub_one, Nat.testBit_div_two_pow, Nat.testBit_mod_two_pow]
  by_cases hi : 3 ≤ i
  · rw [show i - 3 + 3 = i by omega]
    by_cases hj : i < 254
    · have : i - 3 < 251 := by omega
      simp [hj, hi, this]
    · have : ¬ i - 3 < 251 := by omega
      simp [hj, hi, this]
  · simp [hi]
theorem power_step (f x n : Nat) : power (f + 1) x n = if n = 0 then 1 else if n % 2 = 1 then x * power f (x * x % P) (n / 2) % P else power f (x * x % P) (n / 2) := rfl
theorem power_turn (f r x n : Nat) (h : n ≠ 0) : (r * power (f + 1) x n) % P = ((if n % 2 = 1 then r * x % P else r) * power f (x * x % P) (n / 2)) % P := by
  rw [power_step, if_neg h]
  by_cases h1 : n % 2 = 1
  · rw [if_pos h1, if_pos h1, Nat.mul_mod_mod, Nat.mod_mul_mod, Nat.mul_assoc]
  · rw [if_neg h1, if_neg h1]
theorem power_zero (f x : Nat) : power f x 0 = 1 := by
  cases f with
  | zero => rfl
  | succ f => rw [power_step, if_pos rfl]
end M
namespace S
open PySem PySem.Spec PyProof.Rows L2
theorem Z1 {A : Type _} {x y : A} {l : List A} {n : Nat} : (x :: l).set (n + 1) y = x :: l.set n y := rfl
theorem Z2 {A : Type _} {x y : A} {l : List A} : (x :: l).set 0 y = y :: l := rfl
theorem Z3 {A : Type _} {B : Type _} {f : A -> B} {x : A} {l : List A} : (x :: l).map f = f x :: l.map f := rfl
theorem Z4 {A : Type _} {B : Type _} {f : A -> B} : List.map f [] = [] := rfl
theorem Z5 {A : Type _} {x : A} {l : List A} : (x :: l).length = l.length + 1 := rfl
theorem Z6 {A : Type _} : (List.nil : List A).length = 0 := rfl
theorem Z7 {A : Type _} {x : A} {l k : List A} : (x :: l) ++ k = x :: (l ++ k) := rfl
theorem Z8 {A : Type _} {k : List A} : [] ++ k = k := rfl
theorem nb (a b : PySem.Str) (h : (a == b) = false := by decide +kernel) : (a == b) = false := h
def top (i : Nat) : Stmt := PySem.Challenge.pw_sealedstream_s01_answers.main.body.getD i (.Pass ⟨0, 0, 0, 0⟩)
def nv (l : List Nat) : List V := l.map fun (n : Nat) => V.int (n : Int)
def bv (b : List UInt8) : List V := nv (Sf83.nums b)
theorem nv_len (l : List Nat) : (nv l).length = l.length := List.length_map ..
theorem nums_len (b : List UInt8) : (Sf83.nums b).length = b.length := List.length_map ..
theorem bv_len (b : List UInt8) : (bv b).length = b.length := (nv_len _).trans (nums_len b)
theorem nv_app (a b : List Nat) : nv (a ++ b) = nv a ++ nv b := List.map_append ..
theorem bv_app (a b : List UInt8) : bv (a ++ b) = bv a ++ bv b := by
  unfold bv Sf83.nums
  rw [List.map_append, nv_app]
theorem nv_get {l : List Nat} {i : Nat} {x : V} (h : (nv l)[i]? = some x) : ∃ n, l[i]? = some n ∧ x = V.int (n : Int) := by
  unfold nv at h
  rw [List.getElem?_map] at h
  cases e : l[i]? with
  | none => rw [e] at h; cases h
  | some n => rw [e] at h; exact ⟨n, rfl, (Option.some.inj h).symm⟩
theorem bv_get {b : List UInt8} {i : Nat} {x : V} (h : (bv b)[i]? = some x) : ∃ c, b[i]? = some c ∧ x = V.int (c.toNat : Int) := by
  obtain ⟨n, e, rfl⟩ := nv_get h
  unfold Sf83.nums at e
  rw [List.getElem?_map] at e
  cases q : b[i]? with
  | none => rw [q] at e; cases e
  | some c => rw [q] at e; exact ⟨c, rfl, by rw [Option.some.inj e.symm]⟩
theorem nv_at {l : List Nat} {i : Nat} {n : Nat} (h : l[i]? = some n) : (nv l)[i]? = some (V.int (n : Int)) := by
  unfold nv
  rw [List.getElem?_map, h]
  rfl
theorem bv_drop (b : List UInt8) (n : Nat) : (bv b).drop n = bv (b.drop n) := by
  unfold bv nv Sf83.nums
  rw [← List.map_drop, ← List.map_drop]
theorem bv_take (b : List UInt8) (n : Nat) : (bv b).take n = bv (b.take n) := by
  unfold bv nv Sf83.nums
  rw [← List.map_take, ← List.map_take]
theorem nv_drop (b : List Nat) (n : Nat) : (nv b).drop n = nv (b.drop n) := by
  unfold nv
  rw [← List.map_drop]
theorem nv_take (b : List Nat) (n : Nat) : (nv b).take n = nv (b.take n) := by
  unfold nv
  rw [← List.map_take]
structure Glb (mg : Str → Option Value) : Prop where
  len : mg "len" = none
  range : mg "range" = none
  reversed : mg "reversed" = none
  zip : mg "zip" = none
  list : mg "list" = none
  max : mg "max" = none
  all : mg "all" = none
  ord : mg "ord" = none
  P : ∃ t, mg "P" = some (.int M.PI t)
  low : ∃ t, mg "LOW_255_BITS" = some (.int 57896044618658097711785492504343953926634992332820282019728792003956564819967 t)
  kept : ∃ t, mg "KEPT_OF_KEY" = some (.int 28948022309329048855892746252171976963317496166410141009864396001978282409976 t)
  bit : ∃ t, mg "BIT_254" = some (.int 28948022309329048855892746252171976963317496166410141009864396001978282409984 t)
  ksize : ∃ t, mg "KEY_SIZE" = some (.int 32 t)
  UNFIT : ∃ t, mg "UNFIT" = some (.int (-1) t)
  IS_BROKEN : ∃ t, mg "IS_BROKEN" = some (.int (-3) t)
  NOT_NOW : ∃ t, mg "NOT_NOW" = some (.int (-4) t)
  TOO_MUCH : ∃ t, mg "TOO_MUCH" = some (.int (-5) t)
  mask : ∃ t, mg "MASK" = some (.int 4294967295 t)
  keptR : ∃ t, mg "KEPT_OF_R" = some (.int 21267647620597763993911028882763415551 t)
  prime : ∃ t, mg "TAG_PRIME" = some (.int 1361129467683753853853498429727072845819 t)
  tsize : ∃ t, mg "TAG_SIZE" = some (.int 16 t)
  NONCE_SIZE : ∃ t, mg "NONCE_SIZE" = some (.int 12 t)
  bsize : ∃ t, mg "BLOCK_SIZE" = some (.int 64 t)
  MESSAGE_SIZE : ∃ t, mg "MESSAGE_SIZE" = some (.int 48 t)
  DATA_KIND : ∃ t, mg "DATA_KIND" = some (.int 0 t)
  KEY_KIND : ∃ t, mg "KEY_KIND" = some (.int 1 t)
  END_KIND : ∃ t, mg "END_KIND" = some (.int 2 t)
  HEAD_SIZE : ∃ t, mg "HEAD_SIZE" = some (.int 2 t)
  MOST_DATA : ∃ t, mg "MOST_DATA" = some (.int 16384 t)
  BESIDES_DATA : ∃ t, mg "BESIDES_DATA" = some (.int 17 t)
  MOST_REST : ∃ t, mg "MOST_REST" = some (.int 16401 t)
  NEXT_KEY : ∃ t, mg "NEXT_KEY" = some (.int 3 t)
  NOT_OPENED : ∃ t, mg "NOT_OPENED" = some (.int 0 t)
  WAITING : ∃ t, mg "WAITING" = some (.int 1 t)
  SEALED : ∃ t, mg "SEALED" = some (.int 2 t)
  BROKEN : ∃ t, mg "BROKEN" = some (.int 3 t)
  MOST_EVERY : ∃ t, mg "MOST_EVERY" = some (.int 1000000 t)
  MOST_BYTES : ∃ t, mg "MOST_BYTES" = some (.int 65536 t)
  MOST_HELD : ∃ t, mg "MOST_HELD" = some (.int 262144 t)
  FIRST_SENDS : ∃ t, mg "FIRST_SENDS" = some (.int 1 t)
  SECOND_SENDS : ∃ t, mg "SECOND_SENDS" = some (.int 2 t)
  MOST_SEALED : ∃ t, mg "MOST_SEALED" = some (.int 65552 t)
  BEGIN : ∃ t, mg "BEGIN" = some (.str "sealed streams, one end to other" t)
structure Tups (K : PySem.W.Frag) (mg : Str → Option Value) : Prop where
  cst : ∃ a, mg "CONSTANTS" = some (.ref a) ∧ ∀ H, SqT K H a (nv Sf83.SIGMA)
  nz : ∃ a, mg "NONCE_ZERO" = some (.ref a) ∧ ∀ H, SqT K H a (bv (Sf83.zeros 12))
  qs : ∃ a as, mg "QUARTERS" = some (.ref a) ∧ (∀ H, SqT K H a (as.map V.ref)) ∧ Paired (fun (b : Addr) (q : Nat × Nat × Nat × Nat) => ∀ H, SqT K H b [.int (q.1 : Nat), .int (q.2.1 : Nat), .int (q.2.2.1 : Nat), .int (q.2.2.2 : Nat)]) as M.QS
end S
set_option maxHeartbeats 2000000
namespace S
open PySem PySem.Spec PyProof.Rows L2
section
variable {P : Program} {w : World} {K : PySem.W.Frag} {mg : Str → Option Value} {base : Heap}
theorem small_le (b : List UInt8) (h : b.length ≤ 64) : ((Sf83.ofLe b : Nat) : Int).natAbs < BIG := by
  have h1 := M.ofLe_lt b
  have h2 : 256 ^ b.length ≤ 256 ^ 64 := Nat.pow_le_pow_right (by decide) h
  have h3 : (256 : Nat) ^ 64 ≤ BIG := by decide +kernel
  rw [Int.natAbs_natCast]
  omega
abbrev sNum : Stmt := top 1
def spNum (K : PySem.W.Frag) : Sp := fun vs H Q _ => ∃ (a : Addr) (b : List UInt8), vs = [.ref a] ∧ SqL K H a (bv b) ∧ b.length ≤ 64 ∧ ∀ H', Same H H' → Q (.int (Sf83.ofLe b : Nat)) H'
theorem scNum : FnScope ["row", "number", "byte"] ["row"] (defScope sNum) := ⟨rfl, rfl, rfl, by decide +kernel, rfl, by decide +kernel, by decide +kernel⟩
theorem ok_num {f : Addr} {fd : FuncData} (F : Fun K "number_of" "number_of" sNum f fd) (G : Glb mg) : FnOk P w K mg base CX0 1 f fd ["row"] (spNum K) := by
  refine F.ok scNum (fun vs H Q E h => ?_) (fun cdv A outer s H vs Q E hr h => ?_)
  · obtain ⟨a, b, rfl, _⟩ := h
    rfl
  · obtain ⟨a, b, rfl, hS, hb, k⟩ := h
    refine ⟨_, pss_cons (ps_set (i := 1) scNum.nd rfl (Or.inl rfl) pe_int) (pss_cons (ps_for PassesOwn.never rfl (pi_reversed rfl G.reversed (pa_cons (pv 0) pa_nil)) (pg_name (i := 2) scNum.nd rfl (Or.inl rfl))
      (pss_one (ps_set (i := 1) scNum.nd rfl (Or.inl rfl) (pe_op op_add (pe_op op_mulB (pv 1) pe_int) (pv 2))))) (pss_one (ps_ret (pv 1)))), ?_⟩
    refine ⟨_, rfl, a, bv b, rfl, hS, for_gen (n := (bv b).length) (fun i σ H' => ∃ v : Option V, σ = [some (.ref a), some (.int (Sf83.ofLe (b.drop (b.length - i)) : Nat)), v] ∧ H' = H) ⟨none, ?_, rfl⟩ ?_ ?_ ?_ ?_⟩
    · rw [Nat.sub_zero, List.drop_length]
      rfl
    · rintro i σ H' hi ⟨v, rfl, rfl⟩
      exact ⟨hi, _, _, hS, List.getElem?_eq_getElem (by omega)⟩
    · rintro σ H' ⟨v, rfl, rfl⟩
      exact Nat.le_refl _
    · rintro i σ H' x H2 hi ⟨v, rfl, rfl⟩ ⟨rfl, hx⟩
      obtain ⟨c, hc, rfl⟩ := bv_get (hx _ hS)
      rw [bv_len] at hi hc
      have e1 := M.ofLe_drop hc
      rw [show b.length - 1 - i + 1 = b.length - i by omega] at e1
      refine ⟨_, rfl, _, _, rfl, rfl, ⟨small_le _ (by rw [List.length_drop]; omega), by decide +kernel⟩, _, rfl, _, _, rfl, rfl, some (.int c.toNat), ?_, rfl⟩
      rw [show b.length - (i + 1) = b.length - 1 - i by omega, e1, Int.natCast_add, Int.natCast_mul]
      rfl
    · rintro σ H' ⟨v, rfl, rfl⟩
      rw [bv_len, Nat.sub_self, List.drop_zero]
      exact ⟨_, rfl, k _ (Same.refl _)⟩
theorem small_nat {i : Int} (h : i.natAbs < 2 ^ 256) : i.natAbs < BIG := Nat.lt_of_lt_of_le h (by decide +kernel)
theorem pow8 (i : Nat) : (2 : Int) ^ (8 * i) = ((256 ^ i : Nat) : Int) := by
  rw [show (256 : Nat) = 2 ^ 8 from rfl, ← Nat.pow_mul, Int.natCast_pow]
  rfl
theorem le_val {n k i : Nat} {y : V} (hi : i < k) (h : (bv (Sf83.le k n))[i]? = some y) : y = V.int ((n / 256 ^ i % 256 : Nat) : Int) := by
  obtain ⟨m, hm, rfl⟩ := nv_get h
  rw [M.le_nums, List.getElem?_map, List.getElem?_range hi] at hm
  rw [← Option.some.inj hm]
abbrev sBytes : Stmt := top 2
def spBytes : Sp := fun vs H Q _ => ∃ (n k : Nat), vs = [.int n, .int k] ∧ k ≤ 64 ∧ RetL H (bv (Sf83.le k n)) Q
theorem scBytes : FnScope ["number", "size", "place"] ["number", "size"] (defScope sBytes) := ⟨rfl, rfl, rfl, by decide +kernel, rfl, by decide +kernel, by decide +kernel⟩
theorem ok_bytes {f : Addr} {fd : FuncData} (F : Fun K "bytes_of" "bytes_of" sBytes f fd) (G : Glb mg) : FnOk P w K mg base CX0 1 f fd ["number", "size"] spBytes := by
  refine F.ok scBytes (fun vs H Q E h => ?_) (fun cdv A outer s H vs Q E hr h => ?_)
  · obtain ⟨n, k, rfl, _⟩ := h
    rfl
  · obtain ⟨n, k, rfl, hk, r⟩ := h
    refine ⟨_, pss_one (ps_ret (pe_lc (own := [("place", 2)]) rfl scBytes.nd (pi_range1 rfl G.range (pa_cons (pv 1) pa_nil)) (blkOk_by rfl) (fun _ _ _ _ _ => pg_name (i := 2) scBytes.nd rfl (Or.inl rfl)) (fun _ _ _ _ _ => pts_nil)
      (fun _ _ _ _ _ => pe_op op_and (pe_op op_shr (pv 0) (pe_op op_mulB pe_int (pv 2))) pe_int))), ?_⟩
    refine ⟨_, rfl, (k : Int), rfl, by omega, by omega, fun D hD => ?_⟩
    refine lc_gen (n := k) (bv (Sf83.le k n)) (by rw [bv_len, M.le_len]) (by rw [sizeLine_eq]; omega) hD ?_ ?_ ?_ ?_ (gName_mono 2) tYes_mono
    · intro i H' hi _
      show i < (k : Int).toNat
      omega
    · intro H' _
      show (k : Int).toNat ≤ k
      omega
    · intro i H' x H2 y hi s1 yl hy
      obtain ⟨e1, e2⟩ := yl
      subst e1 e2
      refine ⟨Same.refl _, fun KK hK => ⟨rfl, iteT (B := False) ?_⟩⟩
      refine ⟨_, rfl, _, rfl, _, _, rfl, rfl, ⟨by decide +kernel, small_nat (by omega)⟩, _, _, rfl, rfl, (by omega), _, _, rfl, rfl, ?_⟩
      have e3 := le_val hi hy
      subst e3
      have e4 : Builtin.bitAnd ((n : Int) / 2 ^ (8 * (0 + (i : Int))).toNat) 255 = ((n / 256 ^ i % 256 : Nat) : Int) := by
        rw [bitAnd_m8, show (8 * (0 + (i : Int))).toNat = 8 * i by omega, pow8, Int.natCast_emod, Int.natCast_ediv]
        rfl
      show KK (V.int (Builtin.bitAnd ((n : Int) / 2 ^ (8 * (0 + (i : Int))).toNat) 255)) _
      rw [e4]
      exact hK _ (Same.refl _)
    · intro H' s1 hl
      exact r _ _ s1 hD hl
end
section
variable {P : Program} {w : World} {K : PySem.W.Frag} {mg : Str → Option Value} {base : Heap}
abbrev sScal : Stmt := top 9
def spScal (K : PySem.W.Frag) : Sp := fun vs H Q _ => ∃ (a : Addr) (b : List UInt8), vs = [.ref a] ∧ SqL K H a (bv b) ∧ b.length ≤ 64 ∧ ∀ H', Same H H' → Q (.int (M.scal b : Nat)) H'
theorem scScal : FnScope ["key"] ["key"] (defScope sScal) := ⟨rfl, rfl, rfl, by decide +kernel, rfl, by decide +kernel, by decide +kernel⟩
theorem ok_scal {f : Addr} {fd : FuncData} (F : Fun K "scalar_of" "scalar_of" sScal f fd) (G : Glb mg) (Fnum : Fn P w K mg base "number_of" 1 ["row"] (spNum K)) : FnOk P w K mg base CX0 2 f fd ["key"] (spScal K) := by
  refine F.ok scScal (fun vs H Q E h => ?_) (fun cdv A outer s H vs Q E hr h => ?_)
  · obtain ⟨a, b, rfl, _⟩ := h
    rfl
  · obtain ⟨a, b, rfl, hS, hb, k⟩ := h
    refine ⟨_, pss_one (ps_ret (pe_op op_or (pe_op op_and (pe_fn Fnum hr (pa_cons (pv 0) pa_nil)) (pe_gint G.kept)) (pe_gint G.bit))), ?_⟩
    refine ⟨_, rfl, a, b, rfl, hS, hb, fun H' s' => ⟨_, _, rfl, rfl, _, _, rfl, rfl, ?_⟩⟩
    have e : Builtin.bitOr (Builtin.bitAnd ((Sf83.ofLe b : Nat) : Int) 28948022309329048855892746252171976963317496166410141009864396001978282409976) 28948022309329048855892746252171976963317496166410141009864396001978282409984 = ((M.scal b : Nat) : Int) := by
      rw [bitAnd_pp (Int.natCast_nonneg _) (by decide), Bits.bitOr_pp (Int.natCast_nonneg _) (by decide), ← M.scal_bits]
      rfl
    show Q (V.int (Builtin.bitOr (Builtin.bitAnd ((Sf83.ofLe b : Nat) : Int) _) _)) H'
    rw [e]
    exact k H' s'
abbrev sInv : Stmt := top 10
def spInv : Sp := fun vs H Q _ => ∃ x : Nat, vs = [.int x] ∧ x < Sf83.P ∧ ∀ r : Nat, r < Sf83.P → r % Sf83.P = Sf83.power 256 x (Sf83.P - 2) % Sf83.P → Q (.int r) H
theorem scInv : FnScope ["number", "result", "square", "exponent"] ["number"] (defScope sInv) := ⟨rfl, rfl, rfl, by decide +kernel, rfl, by decide +kernel, by decide +kernel⟩
theorem small_P {x : Nat} (h : x < Sf83.P) : ((x : Nat) : Int).natAbs < BIG := by
  refine small_nat ?_
  rw [Int.natAbs_natCast]
  exact Nat.lt_trans h (by decide)
theorem cast_modP (x : Nat) : ((x : Nat) : Int) % M.PI = ((x % Sf83.P : Nat) : Int) := (M.cast_mod x).symm
theorem ok_inv {f : Addr} {fd : FuncData} (F : Fun K "inverse" "inverse" sInv f fd) (G : Glb mg) : FnOk P w K mg base CX0 1 f fd ["number"] spInv := by
  refine F.ok scInv (fun vs H Q E h => ?_) (fun cdv A outer s H vs Q E hr h => ?_)
  · obtain ⟨x, rfl, _⟩ := h
    rfl
  · obtain ⟨x0, rfl, hx0, k⟩ := h
    refine ⟨_, pss_cons (ps_set (i := 1) scInv.nd rfl (Or.inl rfl) pe_int) (pss_cons (ps_set (i := 2) scInv.nd rfl (Or.inl rfl) (pv 0)) (pss_cons (ps_set (i := 3) scInv.nd rfl (Or.inl rfl) (pe_op op_sub (pe_gint G.P) pe_int))
      (pss_cons (ps_while PassesOwn.never (pt_cmpR op_gt (pv 3) pe_int (nomark _))
        (pss_cons (ps_if (pt_truth (pe_op op_and (pv 3) pe_int) (fun _ => rfl)) (pss_one (ps_set (i := 1) scInv.nd rfl (Or.inl rfl) (pe_op op_mod (pe_op op_mulB (pv 1) (pv 2)) (pe_gint G.P)))) pss_nil)
        (pss_cons (ps_set (i := 2) scInv.nd rfl (Or.inl rfl) (pe_op op_mod (pe_op op_mulB (pv 2) (pv 2)) (pe_gint G.P))) (pss_one (ps_set (i := 3) scInv.nd rfl (Or.inl rfl) (pe_op op_shr (pv 3) pe_int))))))
      (pss_one (ps_ret (pv 1)))))), ?_⟩
    refine ⟨_, rfl, _, _, rfl, rfl, fun m σ H' => ∃ r x n f : Nat, σ = [some (.int (x0 : Nat)), some (.int (r : Nat)), some (.int (x : Nat)), some (.int (n : Nat))] ∧ H' = H ∧ m = n ∧ r < Sf83.P ∧ x < Sf83.P ∧ n < 2 ^ f ∧ (r * Sf83.power f x n) % Sf83.P = Sf83.power 256 x0 (Sf83.P - 2) % Sf83.P,
      ⟨_, 1, x0, Sf83.P - 2, 256, ?_, rfl, rfl, by decide, hx0, by decide, by rw [Nat.one_mul]⟩, ?_⟩
    · show [some (V.int (x0 : Nat)), some (V.int 1), some (V.int (x0 : Nat)), some (V.int (M.PI - 2))] = _
      rw [show M.PI - 2 = ((Sf83.P - 2 : Nat) : Int) by decide]
      rfl
    · rintro m σ H' ⟨r, x, n, f, rfl, rfl, rfl, hr', hx, hn, inv⟩
      refine ⟨_, rfl, _, _, rfl, rfl, _, rfl, ite2 (fun h => ?_) (fun h => ?_)⟩
      · have h0 : m ≠ 0 := fun z => by
          subst z
          exact absurd h (by decide)
        obtain ⟨f, rfl⟩ : ∃ g, f = g + 1 := by
          cases f with
          | zero => simp at hn; omega
          | succ g => exact ⟨g, rfl⟩
        have hn2 : m / 2 < 2 ^ f := by rw [Nat.pow_succ] at hn; omega
        have turn := M.power_turn f r x m h0
        rw [turn] at inv
        have eb : Builtin.bitAnd ((m : Nat) : Int) 1 = ((m % 2 : Nat) : Int) := by rw [bitAnd_m1, Int.natCast_emod]; rfl
        have ex : ((x : Nat) : Int) * (x : Nat) % M.PI = ((x * x % Sf83.P : Nat) : Int) := by rw [← Int.natCast_mul, cast_modP]
        have es : ((m : Nat) : Int) / 2 ^ (1 : Int).toNat = ((m / 2 : Nat) : Int) := by rw [Int.natCast_ediv]; rfl
        refine ⟨fun σ' H'' => ∃ r x n f : Nat, σ' = [some (.int (x0 : Nat)), some (.int (r : Nat)), some (.int (x : Nat)), some (.int (n : Nat))] ∧ H'' = H' ∧ n < m ∧ r < Sf83.P ∧ x < Sf83.P ∧ n < 2 ^ f ∧ (r * Sf83.power f x n) % Sf83.P = Sf83.power 256 x0 (Sf83.P - 2) % Sf83.P,
          fun σ' H'' ⟨r, x, n, f, a1, a2, a3, a4, a5, a6, a7⟩ => ⟨n, a3, r, x, n, f, a1, a2, rfl, a4, a5, a6, a7⟩, ?_⟩
        refine ⟨_, rfl, _, _, rfl, rfl, _, rfl, ?_⟩
        show if ((Builtin.bitAnd ((m : Nat) : Int) 1) != 0) = true then _ else _
        rw [eb]
        by_cases h1 : m % 2 = 1
        · rw [if_pos h1] at inv
          rw [if_pos (by rw [h1]; rfl)]
          have er : ((r : Nat) : Int) * (x : Nat) % M.PI = ((r * x % Sf83.P : Nat) : Int) := by rw [← Int.natCast_mul, cast_modP]
          refine ⟨_, rfl, _, rfl, _, _, rfl, rfl, ⟨small_P hr', small_P hx⟩, _, _, rfl, rfl, M.PI_pos, ?_⟩
          refine ⟨_, rfl, _, rfl, _, _, rfl, rfl, ⟨small_P hx, small_P hx⟩, _, _, rfl, rfl, M.PI_pos, ?_⟩
          refine ⟨_, rfl, _, _, rfl, rfl, (by show (0 : Int) ≤ 1; decide), r * x % Sf83.P, x * x % Sf83.P, m / 2, f, ?_, rfl, by omega, Nat.mod_lt _ M.P_pos, Nat.mod_lt _ M.P_pos, hn2, inv⟩
          rw [← er, ← ex, ← es]
          rfl
        · rw [if_neg h1] at inv
          rw [if_neg (by rw [show m % 2 = 0 by omega]; decide)]
          refine ⟨_, rfl, _, rfl, _, _, rfl, rfl, ⟨small_P hx, small_P hx⟩, _, _, rfl, rfl, M.PI_pos, ?_⟩
          refine ⟨_, rfl, _, _, rfl, rfl, (by show (0 : Int) ≤ 1; decide), r, x * x % Sf83.P, m / 2, f, ?_, rfl, by omega, hr', Nat.mod_lt _ M.P_pos, hn2, inv⟩
          rw [← ex, ← es]
          rfl
      · have h0 : m = 0 := by
          have := of_decide_eq_false (Bool.eq_false_iff.mpr h)
          omega
        subst h0
        rw [M.power_zero, Nat.mul_one] at inv
        exact ⟨_, rfl, k r hr' inv⟩
end
section
variable {P : Program} {w : World} {K : PySem.W.Frag} {mg : Str → Option Value} {base : Heap}
abbrev st_ladder_step : Stmt := top 11
theorem sc_ladder_step : FnScope ["x", "pair", "other", "a", "b", "aa", "bb", "e", "d", "c", "doubled", "added"] ["x", "pair", "other"] (defScope st_ladder_step) := ⟨rfl, rfl, rfl, by decide +kernel, rfl, by decide +kernel, by decide +kernel⟩
theorem bd_ladder_step : BindsOf "ladder_step" "ladder_step" st_ladder_step ["x", "pair", "other"] := fun _ _ _ _ _ _ us hl => match us, hl with | [_, _, _], _ => rfl
def Pr (H : Hp) (a : Addr) (x z : Int) : Prop := H a = some (.tup [.int x, .int z])
def spLad (K : PySem.W.Frag) : Sp := fun vs H Q _ => ∃ (x x2 z2 x3 z3 : Nat) (p o : Addr), vs = [.int x, .ref p, .ref o] ∧ SqT K H p [.int x2, .int z2] ∧ SqT K H o [.int x3, .int z3] ∧ x < Sf83.P ∧ x2 < Sf83.P ∧ z2 < Sf83.P ∧ x3 < Sf83.P ∧ z3 < Sf83.P ∧
  ∀ (H' : Hp) (r d a : Addr), Same H H' → H' r = some (.tup [.ref d, .ref a]) → Pr H' d (M.rstep x x2 z2 x3 z3).1 (M.rstep x x2 z2 x3 z3).2.1 → Pr H' a (M.rstep x x2 z2 x3 z3).2.2.1 (M.rstep x x2 z2 x3 z3).2.2.2 → Q (.ref r) H'
theorem three_new {H : Hp} {d a r : Addr} {o1 o2 o3 : HO} (hd : H d = none) (ha : upd H d o1 a = none) (hr : upd (upd H d o1) a o2 r = none) :
    Same H (upd (upd (upd H d o1) a o2) r o3) ∧ upd (upd (upd H d o1) a o2) r o3 d = some o1 ∧ upd (upd (upd H d o1) a o2) r o3 a = some o2 ∧ upd (upd (upd H d o1) a o2) r o3 r = some o3 := by
  have s1 : Same H (upd H d o1) := (Same.refl H).upd hd
  have s2 : Same H (upd (upd H d o1) a o2) := s1.upd (s1.free ha)
  have d1 : upd (upd H d o1) a o2 d = some o1 := (upd_ne (ne_of_none upd_same ha)).trans upd_same
  exact ⟨s2.upd (s2.free hr), (upd_ne (ne_of_none d1 hr)).trans d1, (upd_ne (ne_of_none upd_same hr)).trans upd_same, upd_same⟩
theorem prodB {u v : Int} (hu : u.natAbs < 2 ^ 256) (hv : v.natAbs < 2 ^ 256) : (u * v).natAbs < 2 ^ 256 * 2 ^ 256 := by
  rw [Int.natAbs_mul]
  exact Nat.mul_lt_mul'' hu hv
theorem sumB {u v : Int} (hu : u.natAbs < 2 ^ 256 * 2 ^ 256) (hv : v.natAbs < 2 ^ 256 * 2 ^ 256) : (u + v).natAbs < BIG ∧ (u - v).natAbs < BIG := by
  have h : 2 ^ 256 * 2 ^ 256 + 2 ^ 256 * 2 ^ 256 ≤ BIG := by decide +kernel
  omega
theorem modB (x : Int) : (x % M.PI).natAbs < 2 ^ 255 ∧ 0 ≤ x % M.PI := by
  have h1 := Int.emod_nonneg x (Int.ne_of_gt M.PI_pos)
  have h2 := Int.emod_lt_of_pos x M.PI_pos
  have h3 : M.PI < 2 ^ 255 := by decide
  omega
theorem eB {u v : Int} (hu : (u % M.PI).natAbs < 2 ^ 255 ∧ 0 ≤ u % M.PI) (hv : (v % M.PI).natAbs < 2 ^ 255 ∧ 0 ≤ v % M.PI) : (u % M.PI + 121665 * (u % M.PI - v % M.PI)).natAbs < BIG := by
  have h : 2 ^ 255 * 2 ^ 20 ≤ BIG := by decide +kernel
  omega
theorem ok_lad {f : Addr} {fd : FuncData} (F : Fun K "ladder_step" "ladder_step" st_ladder_step f fd) (G : Glb mg) : FnOk P w K mg base CX0 1 f fd ["x", "pair", "other"] (spLad K) := by
  refine F.ok sc_ladder_step (fun vs H Q E h => ?_) (fun cdv A outer s H vs Q E hr h => ?_)
  · obtain ⟨x, x2, z2, x3, z3, p, o, rfl, _⟩ := h
    rfl
  · obtain ⟨x, x2, z2, x3, z3, p, o, rfl, hp, ho, hx, h2, h3, h4, h5, k⟩ := h
    refine ⟨_, (pss_cons (ps_set (i := 3) sc_ladder_step.nd rfl (Or.inl rfl) (pe_op op_add (pe_ix ix_tup (pv 1) pe_int (fun _ _ => rfl)) (pe_ix ix_tup (pv 1) pe_int (fun _ _ => rfl)))) (pss_cons (ps_set (i := 4) sc_ladder_step.nd rfl (Or.inl rfl) (pe_op op_sub (pe_ix ix_tup (pv 1) pe_int (fun _ _ => rfl)) (pe_ix ix_tup (pv 1) pe_int (fun _ _ => rfl)))) (pss_cons (ps_set (i := 5) sc_ladder_step.nd rfl (Or.inl rfl) (pe_op op_mod (pe_op op_mulB (pv 3) (pv 3)) (pe_gint G.P))) (pss_cons (ps_set (i := 6) sc_ladder_step.nd rfl (Or.inl rfl) (pe_op op_mod (pe_op op_mulB (pv 4) (pv 4)) (pe_gint G.P))) (pss_cons (ps_set (i := 7) sc_ladder_step.nd rfl (Or.inl rfl) (pe_op op_sub (pv 5) (pv 6))) (pss_cons (ps_set (i := 8) sc_ladder_step.nd rfl (Or.inl rfl) (pe_op op_mulB (pe_op op_sub (pe_ix ix_tup (pv 2) pe_int (fun _ _ => rfl)) (pe_ix ix_tup (pv 2) pe_int (fun _ _ => rfl))) (pv 3))) (pss_cons (ps_set (i := 9) sc_ladder_step.nd rfl (Or.inl rfl) (pe_op op_mulB (pe_op op_add (pe_ix ix_tup (pv 2) pe_int (fun _ _ => rfl)) (pe_ix ix_tup (pv 2) pe_int (fun _ _ => rfl))) (pv 4))) (pss_cons (ps_set (i := 10) sc_ladder_step.nd rfl (Or.inl rfl) (pe_tup (pa_cons (pe_op op_mod (pe_op op_mulB (pv 5) (pv 6)) (pe_gint G.P)) (pa_cons (pe_op op_mod (pe_op op_mulB (pv 7) (pe_op op_add (pv 5) (pe_op op_mulB pe_int (pv 7)))) (pe_gint G.P)) pa_nil)))) (pss_cons (ps_set (i := 11) sc_ladder_step.nd rfl (Or.inl rfl) (pe_tup (pa_cons (pe_op op_mod (pe_op op_mulB (pe_op op_add (pv 8) (pv 9)) (pe_op op_add (pv 8) (pv 9))) (pe_gint G.P)) (pa_cons (pe_op op_mod (pe_op op_mulB (pv 0) (pe_op op_mod (pe_op op_mulB (pe_op op_sub (pv 8) (pv 9)) (pe_op op_sub (pv 8) (pv 9))) (pe_gint G.P))) (pe_gint G.P)) pa_nil)))) (pss_one (ps_ret (pe_tup (pa_cons (pv 10) (pa_cons (pv 11) pa_nil)))))))))))))), ?_⟩
    have PL : Sf83.P < 2 ^ 255 := by decide
    have b1 : ((x2 : Int) + z2).natAbs < 2 ^ 256 := by omega
    have b2 : ((x2 : Int) - z2).natAbs < 2 ^ 256 := by omega
    have b3 : ((x3 : Int) - z3).natAbs < 2 ^ 256 := by omega
    have b4 : ((x3 : Int) + z3).natAbs < 2 ^ 256 := by omega
    have m1 := modB (((x2 : Int) + z2) * ((x2 : Int) + z2))
    have m2 := modB (((x2 : Int) - z2) * ((x2 : Int) - z2))
    refine ⟨_, rfl, p, _, _, _, rfl, rfl, hp, rfl, _, rfl, p, _, _, _, rfl, rfl, hp, rfl, _, _, rfl, rfl, ?_⟩
    dsimp only [L2.start, Z1, Z2, Z3, Z4, Z5, Z6, List.replicate, Z7, Z8, Nat.reduceAdd, Nat.reduceSub, Nat.zero_add]
    refine ⟨_, rfl, p, _, _, _, rfl, rfl, hp, rfl, _, rfl, p, _, _, _, rfl, rfl, hp, rfl, _, _, rfl, rfl, ?_⟩
    dsimp only [L2.start, Z1, Z2, Z3, Z4, Z5, Z6, List.replicate, Z7, Z8, Nat.reduceAdd, Nat.reduceSub, Nat.zero_add]
    refine ⟨_, rfl, _, rfl, _, _, rfl, rfl, ⟨small_nat b1, small_nat b1⟩, _, _, rfl, rfl, M.PI_pos, ?_⟩
    dsimp only [L2.start, Z1, Z2, Z3, Z4, Z5, Z6, List.replicate, Z7, Z8, Nat.reduceAdd, Nat.reduceSub, Nat.zero_add]
    refine ⟨_, rfl, _, rfl, _, _, rfl, rfl, ⟨small_nat b2, small_nat b2⟩, _, _, rfl, rfl, M.PI_pos, ?_⟩
    dsimp only [L2.start, Z1, Z2, Z3, Z4, Z5, Z6, List.replicate, Z7, Z8, Nat.reduceAdd, Nat.reduceSub, Nat.zero_add]
    refine ⟨_, rfl, _, rfl, _, _, rfl, rfl, ?_⟩
    dsimp only [L2.start, Z1, Z2, Z3, Z4, Z5, Z6, List.replicate, Z7, Z8, Nat.reduceAdd, Nat.reduceSub, Nat.zero_add]
    refine ⟨_, rfl, o, _, _, _, rfl, rfl, ho, rfl, _, rfl, o, _, _, _, rfl, rfl, ho, rfl, _, _, rfl, rfl, _, rfl, _, _, rfl, rfl, ⟨small_nat b3, small_nat b1⟩, ?_⟩
    dsimp only [L2.start, Z1, Z2, Z3, Z4, Z5, Z6, List.replicate, Z7, Z8, Nat.reduceAdd, Nat.reduceSub, Nat.zero_add]
    refine ⟨_, rfl, o, _, _, _, rfl, rfl, ho, rfl, _, rfl, o, _, _, _, rfl, rfl, ho, rfl, _, _, rfl, rfl, _, rfl, _, _, rfl, rfl, ⟨small_nat b4, small_nat b2⟩, ?_⟩
    dsimp only [L2.start, Z1, Z2, Z3, Z4, Z5, Z6, List.replicate, Z7, Z8, Nat.reduceAdd, Nat.reduceSub, Nat.zero_add]
    refine ⟨_, rfl, _, rfl, _, _, rfl, rfl, ⟨small_nat (by omega), small_nat (by omega)⟩, _, _, rfl, rfl, M.PI_pos,
      _, rfl, _, rfl, _, rfl, _, _, rfl, rfl, ⟨by decide +kernel, small_nat (by omega)⟩, _, _, rfl, rfl, _, _, rfl, rfl, ⟨small_nat (by omega), eB m1 m2⟩, _, _, rfl, rfl, M.PI_pos, (by show 2 ≤ sizeLine; decide), fun d hd => ?_⟩
    dsimp only [L2.start, Z1, Z2, Z3, Z4, Z5, Z6, List.replicate, Z7, Z8, Nat.reduceAdd, Nat.reduceSub, Nat.zero_add]
    have dc := sumB (prodB b3 b1) (prodB b4 b2)
    have m3 := modB ((((x3 : Int) - z3) * ((x2 : Int) + z2) - ((x3 : Int) + z3) * ((x2 : Int) - z2)) * (((x3 : Int) - z3) * ((x2 : Int) + z2) - ((x3 : Int) + z3) * ((x2 : Int) - z2)))
    refine ⟨_, rfl, _, rfl, _, _, rfl, rfl, _, rfl, _, rfl, _, _, rfl, rfl, _, _, rfl, rfl, ⟨dc.1, dc.1⟩, _, _, rfl, rfl, M.PI_pos,
      _, rfl, _, rfl, _, rfl, _, _, rfl, rfl, _, rfl, _, rfl, _, _, rfl, rfl, _, _, rfl, rfl, ⟨dc.2, dc.2⟩, _, _, rfl, rfl, M.PI_pos, _, _, rfl, rfl, ⟨small_P hx, small_nat (by omega)⟩, _, _, rfl, rfl, M.PI_pos, (by show 2 ≤ sizeLine; decide), fun a ha => ?_⟩
    dsimp only [L2.start, Z1, Z2, Z3, Z4, Z5, Z6, List.replicate, Z7, Z8, Nat.reduceAdd, Nat.reduceSub, Nat.zero_add]
    refine ⟨_, rfl, _, rfl, (by show 2 ≤ sizeLine; decide), fun r hr' => ?_⟩
    dsimp only [L2.start, Z1, Z2, Z3, Z4, Z5, Z6, List.replicate, Z7, Z8, Nat.reduceAdd, Nat.reduceSub, Nat.zero_add]
    have e := M.lstep_eq x x2 z2 x3 z3
    obtain ⟨s3, e1, e2, e3⟩ := three_new (o3 := .tup [V.ref d, V.ref a]) hd ha hr'
    refine k _ r d a s3 e3 (e1.trans ?_) (e2.trans ?_)
    · show some (HO.tup [.int (M.lstep x x2 z2 x3 z3).1.1, .int (M.lstep x x2 z2 x3 z3).1.2]) = _
      rw [e]
    · show some (HO.tup [.int (M.lstep x x2 z2 x3 z3).2.1, .int (M.lstep x x2 z2 x3 z3).2.2]) = _
      rw [e]
end
section
variable {P : Program} {w : World} {K : PySem.W.Frag} {mg : Str → Option Value} {base : Heap}
abbrev st_point : Stmt := top 12
theorem sc_point : FnScope ["key", "u", "scalar", "x", "pairs", "place", "bit", "stepped"] ["key", "u"] (defScope st_point) := ⟨rfl, rfl, rfl, by decide +kernel, rfl, by decide +kernel, by decide +kernel⟩
theorem bd_point : BindsOf "point" "point" st_point ["key", "u"] := fun _ _ _ _ _ _ us hl => match us, hl with | [_, _], _ => rfl
def spPoint (K : PySem.W.Frag) : Sp := fun vs H Q _ => ∃ (a b : Addr) (k u : List UInt8), vs = [.ref a, .ref b] ∧ SqL K H a (bv k) ∧ SqL K H b (bv u) ∧ k.length ≤ 64 ∧ u.length ≤ 64 ∧ RetL H (bv (Sf83.point k u)) Q
theorem bit_at (n j : Nat) : Builtin.bitAnd (((n : Nat) : Int) / 2 ^ ((j : Nat) : Int).toNat) 1 = (((if n.testBit j then 1 else 0) : Nat) : Int) := by
  rw [bitAnd_m1, Int.toNat_natCast, show (2 : Int) ^ j = ((2 ^ j : Nat) : Int) by rw [Int.natCast_pow]; rfl, ← Int.natCast_ediv, show (2 : Int) = ((2 : Nat) : Int) from rfl, ← Int.natCast_emod]
  congr 1
  rw [Nat.testBit_eq_decide_div_mod_eq]
  by_cases h : n / 2 ^ j % 2 = 1
  · rw [h]; rfl
  · have e : n / 2 ^ j % 2 = 0 := by omega
    rw [e]; rfl
structure PairsAt (H : Hp) (t : Addr) (c : Nat × Nat × Nat × Nat) : Prop where
  ex : ∃ a b, H t = some (.tup [.ref a, .ref b]) ∧ H a = some (.tup [.int (c.1 : Nat), .int (c.2.1 : Nat)]) ∧ H b = some (.tup [.int (c.2.2.1 : Nat), .int (c.2.2.2 : Nat)])
theorem low_mask (x : Nat) : Builtin.bitAnd ((x : Nat) : Int) 57896044618658097711785492504343953926634992332820282019728792003956564819967 = ((x % 2 ^ 255 : Nat) : Int) := by
  rw [bitAnd_pp (Int.natCast_nonneg _) (by decide)]
  congr 1
  rw [Int.toNat_natCast]
  exact Nat.and_two_pow_sub_one_eq_mod x 255
theorem ok_point {f : Addr} {fd : FuncData} (F : Fun K "point" "point" st_point f fd) (G : Glb mg) (F_scalar_of : Fn P w K mg base "scalar_of" 2 ["key"] (spScal K)) (F_number_of : Fn P w K mg base "number_of" 1 ["row"] (spNum K))
    (F_ladder_step : Fn P w K mg base "ladder_step" 1 ["x", "pair", "other"] (spLad K)) (F_inverse : Fn P w K mg base "inverse" 1 ["number"] spInv) (F_bytes_of : Fn P w K mg base "bytes_of" 1 ["number", "size"] spBytes) : FnOk P w K mg base CX0 3 f fd ["key", "u"] (spPoint K) := by
  refine F.ok sc_point (fun vs H Q E h => ?_) (fun cdv A outer s H vs Q E hr h => ?_)
  · obtain ⟨a, b, k, u, rfl, _⟩ := h
    rfl
  · obtain ⟨a, b, k, u, rfl, ha, hb, hk, hu, r⟩ := h
    refine ⟨_, (pss_cons (ps_set (i := 2) sc_point.nd rfl (Or.inl rfl) (pe_fn F_scalar_of hr (pa_cons (pv 0) pa_nil))) (pss_cons (ps_set (i := 3) sc_point.nd rfl (Or.inl rfl) (pe_op op_mod (pe_op op_and (pe_fn F_number_of hr (pa_cons (pv 1) pa_nil)) (pe_gint G.low)) (pe_gint G.P))) (pss_cons (ps_set (i := 4) sc_point.nd rfl (Or.inl rfl) (pe_tup (pa_cons (pe_tup (pa_cons pe_int (pa_cons pe_int pa_nil))) (pa_cons (pe_tup (pa_cons (pv 3) (pa_cons pe_int pa_nil))) pa_nil)))) (pss_cons (ps_for PassesOwn.never rfl (pi_range3 rfl G.range (pa_cons pe_int (pa_cons (pe_un un_neg pe_int) (pa_cons (pe_un un_neg pe_int) pa_nil)))) (pg_name (i := 5) sc_point.nd rfl (Or.inl rfl)) (pss_cons (ps_set (i := 6) sc_point.nd rfl (Or.inl rfl) (pe_op op_and (pe_op op_shr (pv 2) (pv 5)) pe_int)) (pss_cons (ps_set (i := 7) sc_point.nd rfl (Or.inl rfl) (pe_fn F_ladder_step hr (pa_cons (pv 3) (pa_cons (pe_ix ix_tup (pv 4) (pv 6) (fun _ _ => rfl)) (pa_cons (pe_ix ix_tup (pv 4) (pe_op op_sub pe_int (pv 6)) (fun _ _ => rfl)) pa_nil))))) (pss_one (ps_set (i := 4) sc_point.nd rfl (Or.inl rfl) (pe_tup (pa_cons (pe_ix ix_tup (pv 7) (pv 6) (fun _ _ => rfl)) (pa_cons (pe_ix ix_tup (pv 7) (pe_op op_sub pe_int (pv 6)) (fun _ _ => rfl)) pa_nil)))))))) (pss_one (ps_ret (pe_fn F_bytes_of hr (pa_cons (pe_op op_mod (pe_op op_mulB (pe_ix ix_tup (pe_ix ix_tup (pv 4) pe_int (fun _ _ => rfl)) pe_int (fun _ _ => rfl)) (pe_fn F_inverse hr (pa_cons (pe_ix ix_tup (pe_ix ix_tup (pv 4) pe_int (fun _ _ => rfl)) pe_int (fun _ _ => rfl)) pa_nil))) (pe_gint G.P)) (pa_cons (pe_gint G.ksize) pa_nil))))))))), ?_⟩
    refine ⟨_, rfl, a, k, rfl, ha, hk, fun H1 s1 => ⟨_, rfl, b, u, rfl, s1.seq hb, hu, fun H2 s2 => ⟨_, _, rfl, rfl, _, _, rfl, rfl, M.PI_pos, (by show 2 ≤ sizeLine; decide), fun p1 n1 => ?_⟩⟩⟩
    have s12 := s1.trans s2
    have ex : Builtin.bitAnd ((Sf83.ofLe u : Nat) : Int) 57896044618658097711785492504343953926634992332820282019728792003956564819967 % M.PI = ((M.xof u : Nat) : Int) := by
      rw [low_mask, cast_modP]
      rfl
    try dsimp only [L2.start, Z1, Z2, Z3, Z4, Z5, Z6, List.replicate, Z7, Z8, Nat.reduceAdd, Nat.reduceSub, Nat.zero_add]
    rw [ex]
    refine ⟨_, rfl, (by show 2 ≤ sizeLine; decide), fun p2 n2 => ⟨(by show 2 ≤ sizeLine; decide), fun t nt => ?_⟩⟩
    have hx : M.xof u < Sf83.P := Nat.mod_lt _ M.P_pos
    obtain ⟨s3, e1, e2, e3⟩ := three_new (o3 := .tup [V.ref p1, V.ref p2]) n1 n2 nt
    try dsimp only [L2.start, Z1, Z2, Z3, Z4, Z5, Z6, List.replicate, Z7, Z8, Nat.reduceAdd, Nat.reduceSub, Nat.zero_add]
    refine ⟨_, rfl, _, rfl, 254, -1, -1, 255, rfl, RgC.neg (by decide) (by decide) (by decide) (by decide), ?_⟩
    refine for_gen (n := 255) (fun i σ H' => ∃ (t : Addr) (v5 v6 v7 : Option V), σ = [some (.ref a), some (.ref b), some (.int (M.scal k : Nat)), some (.int (M.xof u : Nat)), some (.ref t), v5, v6, v7] ∧ Same H H' ∧ PairsAt H' t (M.climb (M.scal k) (M.xof u) i))
      ⟨t, none, none, none, rfl, s12.trans s3, ⟨p1, p2, e3, e1, e2⟩⟩ ?_ ?_ ?_ ?_
    · intro i σ H' hi _
      exact hi
    · intro σ H' _
      exact Nat.le_refl _
    · rintro i σ H' x H4 hi ⟨t, v5, v6, v7, rfl, s4, q1, q2, ht, hq1, hq2⟩ ⟨rfl, rfl⟩
      obtain ⟨u1, u2, u3, u4⟩ := M.climb_under (M.scal k) (M.xof u) hx i
      have ej : (254 : Int) + (i : Nat) * (-1) = ((254 - i : Nat) : Int) := by omega
      refine ⟨_, rfl, _, rfl, _, _, rfl, rfl, (by show (0 : Int) ≤ 254 + (i : Nat) * (-1); omega), _, _, rfl, rfl, ?_⟩
      try dsimp only [L2.start, Z1, Z2, Z3, Z4, Z5, Z6, List.replicate, Z7, Z8, Nat.reduceAdd, Nat.reduceSub, Nat.zero_add]
      rw [ej, bit_at]
      have ec : M.climb (M.scal k) (M.xof u) (i + 1) = Sf83.rung (M.xof u) (M.climb (M.scal k) (M.xof u) i) ((M.scal k).testBit (254 - i)) := rfl
      rw [M.rung_eq] at ec
      cases hb : (M.scal k).testBit (254 - i) with
      | true =>
        rw [hb, if_pos rfl] at ec
        try dsimp only [L2.start, Z1, Z2, Z3, Z4, Z5, Z6, List.replicate, Z7, Z8, Nat.reduceAdd, Nat.reduceSub, Nat.zero_add]
        refine ⟨_, rfl, _, rfl, _, rfl, t, _, _, _, rfl, rfl, SqT.of ht, rfl, _, rfl, _, rfl, _, _, rfl, rfl, t, _, _, _, rfl, rfl, SqT.of ht, rfl, ?_⟩
        refine ⟨M.xof u, _, _, _, _, q2, q1, rfl, SqT.of hq2, SqT.of hq1, hx, u3, u4, u1, u2, fun H5 r5 d5 a5 s5 hr5 hd5 ha5 => ?_⟩
        try dsimp only [L2.start, Z1, Z2, Z3, Z4, Z5, Z6, List.replicate, Z7, Z8, Nat.reduceAdd, Nat.reduceSub, Nat.zero_add]
        refine ⟨_, rfl, _, rfl, r5, _, _, _, rfl, rfl, SqT.of hr5, rfl, _, rfl, _, rfl, _, _, rfl, rfl, r5, _, _, _, rfl, rfl, SqT.of hr5, rfl, (by show 2 ≤ sizeLine; decide), fun t6 n6 => ?_⟩
        refine ⟨t6, _, _, _, rfl, (s4.trans s5).upd ((s4.trans s5).free n6), ⟨a5, d5, upd_same, ?_, ?_⟩⟩
        · rw [upd_ne (ne_of_none ha5 n6), ec]; exact ha5
        · rw [upd_ne (ne_of_none hd5 n6), ec]; exact hd5
      | false =>
        rw [hb, if_neg Bool.false_ne_true] at ec
        try dsimp only [L2.start, Z1, Z2, Z3, Z4, Z5, Z6, List.replicate, Z7, Z8, Nat.reduceAdd, Nat.reduceSub, Nat.zero_add]
        refine ⟨_, rfl, _, rfl, _, rfl, t, _, _, _, rfl, rfl, SqT.of ht, rfl, _, rfl, _, rfl, _, _, rfl, rfl, t, _, _, _, rfl, rfl, SqT.of ht, rfl, ?_⟩
        refine ⟨M.xof u, _, _, _, _, q1, q2, rfl, SqT.of hq1, SqT.of hq2, hx, u1, u2, u3, u4, fun H5 r5 d5 a5 s5 hr5 hd5 ha5 => ?_⟩
        try dsimp only [L2.start, Z1, Z2, Z3, Z4, Z5, Z6, List.replicate, Z7, Z8, Nat.reduceAdd, Nat.reduceSub, Nat.zero_add]
        refine ⟨_, rfl, _, rfl, r5, _, _, _, rfl, rfl, SqT.of hr5, rfl, _, rfl, _, rfl, _, _, rfl, rfl, r5, _, _, _, rfl, rfl, SqT.of hr5, rfl, (by show 2 ≤ sizeLine; decide), fun t6 n6 => ?_⟩
        refine ⟨t6, _, _, _, rfl, (s4.trans s5).upd ((s4.trans s5).free n6), ⟨d5, a5, upd_same, ?_, ?_⟩⟩
        · rw [upd_ne (ne_of_none hd5 n6), ec]; exact hd5
        · rw [upd_ne (ne_of_none ha5 n6), ec]; exact ha5
    · rintro σ H' ⟨t, v5, v6, v7, rfl, s4, q1, q2, ht, hq1, hq2⟩
      obtain ⟨u1, u2, u3, u4⟩ := M.climb_under (M.scal k) (M.xof u) hx 255
      refine ⟨_, rfl, t, _, _, _, rfl, rfl, SqT.of ht, rfl, q1, _, _, _, rfl, rfl, SqT.of hq1, rfl, _, rfl, t, _, _, _, rfl, rfl, SqT.of ht, rfl, q1, _, _, _, rfl, rfl, SqT.of hq1, rfl, _, rfl, u2, fun r0 hr0 e0 => ?_⟩
      refine ⟨_, _, rfl, rfl, ⟨small_P u1, small_P hr0⟩, _, _, rfl, rfl, M.PI_pos, ?_⟩
      try dsimp only [L2.start, Z1, Z2, Z3, Z4, Z5, Z6, List.replicate, Z7, Z8, Nat.reduceAdd, Nat.reduceSub, Nat.zero_add]
      rw [← Int.natCast_mul, cast_modP]
      refine ⟨_, 32, rfl, by decide, ?_⟩
      have e5 : (M.climb (M.scal k) (M.xof u) 255).1 * r0 % Sf83.P = (M.climb (M.scal k) (M.xof u) 255).1 * Sf83.power 256 (M.climb (M.scal k) (M.xof u) 255).2.1 (Sf83.P - 2) % Sf83.P := by
        rw [Nat.mul_mod, e0, ← Nat.mul_mod]
      rw [e5, ← M.point_eq]
      exact r.of s4
abbrev st_public_key : Stmt := top 13
theorem sc_public_key : FnScope ["key"] ["key"] (defScope st_public_key) := ⟨rfl, rfl, rfl, by decide +kernel, rfl, by decide +kernel, by decide +kernel⟩
theorem bd_public_key : BindsOf "public_key" "public_key" st_public_key ["key"] := fun _ _ _ _ _ _ us hl => match us, hl with | [_], _ => rfl
def spPub (K : PySem.W.Frag) : Sp := fun vs H Q _ => ∃ (a : Addr) (k : List UInt8), vs = [.ref a] ∧ SqL K H a (bv k) ∧ k.length ≤ 64 ∧ RetL H (bv (Sf83.publicOf k)) Q
theorem ok_pub {f : Addr} {fd : FuncData} (F : Fun K "public_key" "public_key" st_public_key f fd) (G : Glb mg) (F_point : Fn P w K mg base "point" 3 ["key", "u"] (spPoint K)) (F_bytes_of : Fn P w K mg base "bytes_of" 1 ["number", "size"] spBytes) : FnOk P w K mg base CX0 4 f fd ["key"] (spPub K) := by
  refine F.ok sc_public_key (fun vs H Q E h => ?_) (fun cdv A outer s H vs Q E hr h => ?_)
  · obtain ⟨a, k, rfl, _⟩ := h
    rfl
  · obtain ⟨a, k, rfl, ha, hk, r⟩ := h
    refine ⟨_, (pss_one (ps_ret (pe_fn F_point hr (pa_cons (pv 0) (pa_cons (pe_fn F_bytes_of hr (pa_cons pe_int (pa_cons (pe_gint G.ksize) pa_nil))) pa_nil))))), ?_⟩
    refine ⟨_, rfl, 9, 32, rfl, by decide, fun H1 p s1 n1 e1 => ?_⟩
    refine ⟨a, p, k, Sf83.le 32 9, rfl, s1.seq ha, SqL.of e1, hk, by rw [M.le_len]; decide, ?_⟩
    exact r.of s1
abbrev st_is_zero : Stmt := top 14
theorem sc_is_zero : FnScope ["row"] ["row"] (defScope st_is_zero) := ⟨rfl, rfl, rfl, by decide +kernel, rfl, by decide +kernel, by decide +kernel⟩
theorem bd_is_zero : BindsOf "is_zero" "is_zero" st_is_zero ["row"] := fun _ _ _ _ _ _ us hl => match us, hl with | [_], _ => rfl
def spZero (K : PySem.W.Frag) : Sp := fun vs H Q _ => ∃ (a : Addr) (b : List UInt8), vs = [.ref a] ∧ SqL K H a (bv b) ∧ b.length = 32 ∧ Q (.bl (decide (b = Sf83.zeros 32))) H
theorem zeros_max {b : List UInt8} (hb : b.length = 32) {m : Int} (h1 : m ∈ (Sf83.nums b).map fun (n : Nat) => (n : Int)) (h2 : ∀ y ∈ (Sf83.nums b).map fun (n : Nat) => (n : Int), y ≤ m) : (m = 0) ↔ (b = Sf83.zeros 32) := by
  constructor
  · intro e
    subst e
    apply List.ext_getElem?
    intro i
    unfold Sf83.zeros
    by_cases hi : i < 32
    · rw [List.getElem?_replicate, if_pos hi, List.getElem?_eq_getElem (by omega)]
      congr 1
      have hm : ((b[i]'(by omega)).toNat : Int) ∈ (Sf83.nums b).map fun (n : Nat) => (n : Int) := List.mem_map.mpr ⟨_, List.mem_map.mpr ⟨_, List.getElem_mem (by omega), rfl⟩, rfl⟩
      have := h2 _ hm
      apply UInt8.toNat_inj.mp
      show _ = 0
      omega
    · rw [List.getElem?_eq_none_iff.mpr (by omega), List.getElem?_eq_none_iff.mpr (by rw [List.length_replicate]; omega)]
  · intro e
    subst e
    obtain ⟨n, hn, rfl⟩ := List.mem_map.mp h1
    obtain ⟨c, hc, rfl⟩ := List.mem_map.mp hn
    have : c = 0 := List.eq_of_mem_replicate hc
    rw [this]
    rfl
theorem bv_ints (b : List UInt8) : bv b = ((Sf83.nums b).map fun (n : Nat) => (n : Int)).map V.int := by
  unfold bv nv
  rw [List.map_map]
  rfl
theorem ok_zero {f : Addr} {fd : FuncData} (F : Fun K "is_zero" "is_zero" st_is_zero f fd) (G : Glb mg) : FnOk P w K mg base CX0 1 f fd ["row"] (spZero K) := by
  refine F.ok sc_is_zero (fun vs H Q E h => ?_) (fun cdv A outer s H vs Q E hr h => ?_)
  · obtain ⟨a, k, rfl, _⟩ := h
    rfl
  · obtain ⟨a, b, rfl, ha, hb, r⟩ := h
    refine ⟨_, (pss_one (ps_ret (pe_cmpR op_eq (pe_callB (cr_max rfl) rfl G.max boot_max (pa_cons (pv 0) pa_nil)) pe_int (nomark _)))), ?_⟩
    rw [bv_ints] at ha
    refine ⟨_, rfl, a, _, rfl, ha, (by rw [List.length_map, nums_len]; omega), fun m h1 h2 => ⟨rfl, ?_⟩⟩
    have e := zeros_max hb h1 h2
    have e2 : decide (V.int m = V.int 0) = decide (b = Sf83.zeros 32) := by
      apply decide_eq_decide.mpr
      constructor
      · intro z; exact e.mp (V.int.inj z)
      · intro z; rw [e.mpr z]
    show Q (.bl (decide (V.int m = V.int 0))) H
    rw [e2]
    exact r
end
theorem cut_nn (xs : List V) (i j : Nat) : cutV xs (some (i : Int)) (some (j : Int)) = (xs.drop i).take (j - i) := by
  unfold cutV
  rw [HT.sIx_nat, HT.sIx_nat]
  by_cases hi : i ≤ xs.length
  · rw [Nat.min_eq_left hi]
    by_cases hj : j ≤ xs.length
    · rw [Nat.min_eq_left hj]
    · rw [Nat.min_eq_right (by omega), List.take_of_length_le (by rw [List.length_drop]; omega), List.take_of_length_le (by rw [List.length_drop]; omega)]
  · rw [Nat.min_eq_right (show xs.length ≤ i by omega), List.drop_of_length_le (Nat.le_refl xs.length), List.drop_of_length_le (show xs.length ≤ i by omega), List.take_nil, List.take_nil]
theorem cut_xn (xs : List V) (j : Nat) : cutV xs none (some (j : Int)) = xs.take j := by
  unfold cutV
  rw [HT.sIx_none, HT.sIx_nat, List.drop_zero, Nat.sub_zero]
  by_cases hj : j ≤ xs.length
  · rw [Nat.min_eq_left hj]
  · rw [Nat.min_eq_right (by omega), List.take_of_length_le (Nat.le_refl _), List.take_of_length_le (by omega)]
theorem cut_nx (xs : List V) (i : Nat) : cutV xs (some (i : Int)) none = xs.drop i := by
  unfold cutV
  rw [HT.sIx_nat, HT.sIx_none]
  by_cases hi : i ≤ xs.length
  · rw [Nat.min_eq_left hi, List.take_of_length_le (by rw [List.length_drop]; omega)]
  · rw [Nat.min_eq_right (by omega), List.drop_of_length_le (Nat.le_refl _), List.drop_of_length_le (by omega), List.take_nil]
theorem sIx_neg (n d k : Nat) (h : 0 < k) (hk : k ≤ n) : HT.sIx n d (some (-(k : Int))) = n - k := by
  show (if (-(k : Int)) < 0 then ((-(k : Int)) + (n : Int)).toNat else _) = n - k
  rw [if_pos (by omega)]
  omega
theorem cut_xm (xs : List V) (k : Nat) (h : 0 < k) (hk : k ≤ xs.length) : cutV xs none (some (-(k : Int))) = xs.take (xs.length - k) := by
  unfold cutV
  rw [HT.sIx_none, sIx_neg _ _ _ h hk, List.drop_zero, Nat.sub_zero]
theorem cut_mx (xs : List V) (k : Nat) (h : 0 < k) (hk : k ≤ xs.length) : cutV xs (some (-(k : Int))) none = xs.drop (xs.length - k) := by
  unfold cutV
  rw [HT.sIx_none, sIx_neg _ _ _ h hk, List.take_of_length_le (by rw [List.length_drop]; omega)]
theorem RgC_up (len c : Nat) (hc : 1 ≤ c) (hc2 : c < 1000000) (hl : len < 2 ^ 40) : RgC 0 (len : Int) (c : Int) ((len + c - 1) / c) := by
  have e : Builtin.Range.rangeSize 0 (len : Int) (c : Int) = (((len + c - 1) / c : Nat) : Int) := by
    rw [rangeSize_pos (by omega) (by omega), Int.natCast_ediv]
    congr 1
    omega
  have hle : (len + c - 1) / c ≤ len := by
    rcases Nat.eq_zero_or_pos len with h0 | h0
    · subst h0
      rw [Nat.div_eq_of_lt (by omega)]
      exact Nat.le_refl _
    · apply Nat.div_le_of_le_mul
      have : c + len ≤ c * len + 1 := by
        obtain ⟨c', rfl⟩ : ∃ c', c = c' + 1 := ⟨c - 1, by omega⟩
        obtain ⟨l', rfl⟩ : ∃ l', len = l' + 1 := ⟨len - 1, by omega⟩
        rw [Nat.add_mul, Nat.mul_add]
        omega
      omega
  refine ⟨by omega, by omega, ?_, e⟩
  unfold Builtin.Range.small
  rw [e]
  generalize (len + c - 1) / c = q at hle
  simp only [Builtin.Range.rangeFitsLong, Bool.and_eq_true, Bool.or_eq_true, decide_eq_true_eq, beq_iff_eq, show ((c : Int) > 0) by omega, if_true]
  omega
theorem pe_gref {X : Cx} {x : Str} {a : Addr} {p : Pos} (h : X.mg x = some (.ref a)) (hg : Gl X x := by rfl) (hdb : (x == ("__debug__" : Str)) = false := by decide) : PE X (.Name x p) (tC (.ref a)) := pe_glob hg h (show RelV (.ref a) (.ref a) from rfl) hdb
def rLen (K : PySem.W.Frag) : List V → Hp → VK → Prop := fun xs H Q => ∃ p ys, xs = [.ref p] ∧ (SqL K H p ys ∨ SqT K H p ys) ∧ Q (.int ys.length) H
theorem call_len_K {X : Cx} : CallR X (.builtin "len") (rLen X.K) := call_len_seq
section
variable {P : Program} {w : World} {K : PySem.W.Frag} {mg : Str → Option Value} {base : Heap}
abbrev st_words_of : Stmt := top 25
theorem sc_words_of : FnScope ["row", "place"] ["row"] (defScope st_words_of) := ⟨rfl, rfl, rfl, by decide +kernel, rfl, by decide +kernel, by decide +kernel⟩
theorem bd_words_of : BindsOf "words_of" "words_of" st_words_of ["row"] := fun _ _ _ _ _ _ us hl => match us, hl with | [_], _ => rfl
def spWords (K : PySem.W.Frag) : Sp := fun vs H Q _ => ∃ (a : Addr) (b : List UInt8) (n : Nat), vs = [.ref a] ∧ SqL K H a (bv b) ∧ b.length = 4 * n ∧ n ≤ 100 ∧ RetL H (nv (Sf83.wordsOf n b)) Q
theorem ok_words {f : Addr} {fd : FuncData} (F : Fun K "words_of" "words_of" st_words_of f fd) (G : Glb mg) (F_number_of : Fn P w K mg base "number_of" 1 ["row"] (spNum K)) : FnOk P w K mg base CX0 2 f fd ["row"] (spWords K) := by
  refine F.ok sc_words_of (fun vs H Q E h => ?_) (fun cdv A outer s H vs Q E hr h => ?_)
  · obtain ⟨a, b, n, rfl, _⟩ := h
    rfl
  · obtain ⟨a, b, n, rfl, hS, hb, hn, r⟩ := h
    refine ⟨_, (pss_one (ps_ret (pe_lc (own := [("place", 1)]) rfl sc_words_of.nd (pi_range3 rfl G.range (pa_cons pe_int (pa_cons (pe_callB call_len_seq rfl G.len boot_len (pa_cons (pv 0) pa_nil)) (pa_cons pe_int pa_nil)))) (blkOk_by rfl) (fun _ _ _ _ _ => pg_name (i := 1) sc_words_of.nd rfl (Or.inl rfl)) (fun _ _ _ _ _ => pts_nil) (fun _ _ _ _ _ => (pe_fn F_number_of hr (pa_cons (pe_slice (r := rSlL K) sl_list (pv 0) (po_some (pv 1)) (po_some (pe_op op_add (pv 1) pe_int))) pa_nil)))))), ?_⟩
    have hR : RgC 0 ((bv b).length : Int) 4 n := by
      have h := RgC_up (bv b).length 4 (by decide) (by decide) (by rw [bv_len]; omega)
      rw [bv_len, hb, show (4 * n + 4 - 1) / 4 = n by omega] at h
      rw [bv_len, hb]
      exact h
    refine ⟨_, rfl, a, _, rfl, .inl hS, 0, _, 4, n, rfl, hR, fun D hD => ?_⟩
    refine lc_gen (n := n) (nv (Sf83.wordsOf n b)) (by rw [nv_len, M.wordsOf_len]) (by rw [sizeLine_eq]; omega) hD ?_ ?_ ?_ ?_ (gName_mono 1) tYes_mono
    · intro i H' hi _
      exact hi
    · intro H' _
      exact Nat.le_refl _
    · intro i H' x H2 y hi s1 yl hy
      obtain ⟨e1, e2⟩ := yl
      subst e1 e2
      refine ⟨Same.refl _, fun KK hK => ⟨rfl, iteT (B := False) ?_⟩⟩
      obtain ⟨m, hm, rfl⟩ := nv_get hy
      rw [M.wordsOf_eq, List.getElem?_map, List.getElem?_range hi] at hm
      have hm := Option.some.inj hm
      subst hm
      refine ⟨_, rfl, _, rfl, _, rfl, _, rfl, _, _, rfl, rfl, _, rfl, a, _, rfl, s1.seq hS, fun p hp => ?_⟩
      have ec : cutV (bv b) (some (0 + (i : Nat) * 4)) (some (0 + (i : Nat) * 4 + 4)) = bv ((b.drop (4 * i)).take 4) := by
        rw [show (0 : Int) + (i : Nat) * 4 = ((4 * i : Nat) : Int) by omega, show ((4 * i : Nat) : Int) + 4 = ((4 * i + 4 : Nat) : Int) by omega, cut_nn, bv_drop, bv_take, show 4 * i + 4 - 4 * i = 4 by omega]
      try dsimp only [L2.start, Z1, Z2, Z3, Z4, Z5, Z6, List.replicate, Z7, Z8, Nat.reduceAdd, Nat.reduceSub, Nat.zero_add]
      rw [ec]
      refine ⟨p, _, rfl, SqL.of upd_same, (by rw [List.length_take]; omega), fun H4 s4 => ?_⟩
      exact hK _ (((Same.refl _).upd hp).trans s4)
    · intro H' s1 hl
      exact r _ _ s1 hD hl
abbrev st_bytes_of_words : Stmt := top 26
theorem sc_bytes_of_words : FnScope ["words", "row", "word"] ["words"] (defScope st_bytes_of_words) := ⟨rfl, rfl, rfl, by decide +kernel, rfl, by decide +kernel, by decide +kernel⟩
theorem bd_bytes_of_words : BindsOf "bytes_of_words" "bytes_of_words" st_bytes_of_words ["words"] := fun _ _ _ _ _ _ us hl => match us, hl with | [_], _ => rfl
def spUnwords (K : PySem.W.Frag) : Sp := fun vs H Q _ => ∃ (a : Addr) (l : List Nat), vs = [.ref a] ∧ SqL K H a (nv l) ∧ l.length ≤ 100 ∧ RetL H (bv ((l.map (Sf83.le 4)).flatten)) Q
theorem flat_snoc {l : List Nat} {i m : Nat} (h : l[i]? = some m) : ((l.take (i + 1)).map (Sf83.le 4)).flatten = ((l.take i).map (Sf83.le 4)).flatten ++ Sf83.le 4 m := by
  rw [List.take_succ, h, Option.toList_some, List.map_append, List.flatten_append]
  show _ ++ (Sf83.le 4 m ++ []) = _
  rw [List.append_nil]
theorem ok_unwords {f : Addr} {fd : FuncData} (F : Fun K "bytes_of_words" "bytes_of_words" st_bytes_of_words f fd) (G : Glb mg) (F_bytes_of : Fn P w K mg base "bytes_of" 1 ["number", "size"] spBytes) : FnOk P w K mg base CX0 2 f fd ["words"] (spUnwords K) := by
  refine F.ok sc_bytes_of_words (fun vs H Q E h => ?_) (fun cdv A outer s H vs Q E hr h => ?_)
  · obtain ⟨a, l, rfl, _⟩ := h
    rfl
  · obtain ⟨a, l, rfl, hS, hl, r⟩ := h
    refine ⟨_, (pss_cons (ps_set (i := 1) sc_bytes_of_words.nd rfl (Or.inl rfl) (pe_lst pa_nil)) (pss_cons (ps_for PassesOwn.never rfl (pi_list (pv 0)) (pg_name (i := 2) sc_bytes_of_words.nd rfl (Or.inl rfl)) (pss_one (ps_expr (pe_bm PySem.F.plainAttrs_list PySem.F.slot_list_extend PySem.F.type_list_extend mt_extend (pv 1) (pa_cons (pe_fn F_bytes_of hr (pa_cons (pv 2) (pa_cons pe_int pa_nil))) pa_nil))))) (pss_one (ps_ret (pv 1))))), ?_⟩
    refine ⟨Nat.zero_le _, fun q hq => ?_⟩
    try dsimp only [L2.start, Z1, Z2, Z3, Z4, Z5, Z6, List.replicate, Z7, Z8, Nat.reduceAdd, Nat.reduceSub, Nat.zero_add]
    have s0 : Same H (upd H q (.lst [])) := (Same.refl H).upd hq
    refine ⟨_, rfl, a, rfl, ⟨_, s0.seq hS⟩, for_list (K := K) (a := a) (xs := nv l) (fun i σ H' => ∃ v : Option V, σ = [some (.ref a), some (.ref q), v] ∧ Same H H' ∧ H' q = some (.lst (bv (((l.take i).map (Sf83.le 4)).flatten))))
      ⟨none, rfl, s0, upd_same⟩ (fun i σ H' _ ⟨_, _, s5, _⟩ => s5.seq hS) ?_ ?_⟩
    · rintro i y σ H' hi ⟨v, rfl, s5, hq'⟩
      obtain ⟨m, hm, rfl⟩ := nv_get hi
      have hlen := List.getElem?_eq_some_iff.mp hm
      refine ⟨_, rfl, .inl ⟨rfl, _, SqL.of hq'⟩, _, rfl, m, 4, rfl, by decide, fun H6 p s6 n6 e6 => ?_⟩
      refine ⟨q, p, _, _, rfl, rfl, s6 _ _ hq', e6, ?_, ?_⟩
      · rw [bv_len, bv_len, M.flat_len, M.le_len, List.length_take, sizeLine_eq]
        omega
      · refine ⟨_, rfl, (s5.trans s6).upd hq, ?_⟩
        rw [upd_same, flat_snoc hm, bv_app]
    · rintro σ H' ⟨v, rfl, s5, hq'⟩
      rw [nv_len, List.take_length] at hq'
      refine ⟨_, rfl, ?_⟩
      exact r H' q s5 hq hq'
abbrev st_turned : Stmt := top 27
theorem sc_turned : FnScope ["word", "bits"] ["word", "bits"] (defScope st_turned) := ⟨rfl, rfl, rfl, by decide +kernel, rfl, by decide +kernel, by decide +kernel⟩
theorem bd_turned : BindsOf "turned" "turned" st_turned ["word", "bits"] := fun _ _ _ _ _ _ us hl => match us, hl with | [_, _], _ => rfl
def spTurned : Sp := fun vs H Q _ => ∃ (x n : Nat), vs = [.int x, .int n] ∧ x < Sf83.W ∧ n ≤ 32 ∧ Q (.int (Sf83.turned x n : Nat)) H
theorem turned_val (x n : Nat) (hn : n ≤ 32) : Builtin.bitOr (Builtin.bitAnd (((x : Nat) : Int) * 2 ^ ((n : Nat) : Int).toNat) 4294967295) (((x : Nat) : Int) / 2 ^ ((32 : Int) - (n : Nat)).toNat) = ((Sf83.turned x n : Nat) : Int) := by
  rw [bitAnd_m32, Int.toNat_natCast, show ((32 : Int) - (n : Nat)).toNat = 32 - n by omega]
  have e1 : ((x : Nat) : Int) * 2 ^ n % 4294967296 = ((x * 2 ^ n % Sf83.W : Nat) : Int) := by
    rw [Int.natCast_emod, Int.natCast_mul, Int.natCast_pow]
    rfl
  have e2 : ((x : Nat) : Int) / 2 ^ (32 - n) = ((x / 2 ^ (32 - n) : Nat) : Int) := by
    rw [Int.natCast_ediv, Int.natCast_pow]
    rfl
  rw [e1, e2, Bits.bitOr_pp (Int.natCast_nonneg _) (Int.natCast_nonneg _)]
  rfl
theorem ok_turned {f : Addr} {fd : FuncData} (F : Fun K "turned" "turned" st_turned f fd) (G : Glb mg) : FnOk P w K mg base CX0 1 f fd ["word", "bits"] spTurned := by
  refine F.ok sc_turned (fun vs H Q E h => ?_) (fun cdv A outer s H vs Q E hr h => ?_)
  · obtain ⟨x, n, rfl, _⟩ := h
    rfl
  · obtain ⟨x, n, rfl, hx, hn, r⟩ := h
    refine ⟨_, (pss_one (ps_ret (pe_op op_or (pe_op op_and (pe_op op_shl (pv 0) (pv 1)) (pe_gint G.mask)) (pe_op op_shr (pv 0) (pe_op op_sub pe_int (pv 1)))))), ?_⟩
    refine ⟨_, rfl, _, rfl, _, _, rfl, rfl, ?_, _, _, rfl, rfl, _, rfl, _, rfl, _, _, rfl, rfl, _, _, rfl, rfl, (by show (0 : Int) ≤ 32 - (n : Nat); omega), _, _, rfl, rfl, ?_⟩
    · refine ⟨Int.natCast_nonneg _, by omega, ?_⟩
      rw [Int.natAbs_natCast]
      exact Nat.lt_trans hx (by decide)
    · try dsimp only [L2.start, Z1, Z2, Z3, Z4, Z5, Z6, List.replicate, Z7, Z8, Nat.reduceAdd, Nat.reduceSub, Nat.zero_add]
      rw [turned_val x n hn]
      exact r
end
section
variable {P : Program} {w : World} {K : PySem.W.Frag} {mg : Str → Option Value} {base : Heap}
theorem add_mask (a b : Nat) : Builtin.bitAnd (((a : Nat) : Int) + ((b : Nat) : Int)) 4294967295 = (((a + b) % Sf83.W : Nat) : Int) := by
  rw [bitAnd_m32, Int.natCast_emod, Int.natCast_add]
  rfl
theorem one_mask (a : Nat) : Builtin.bitAnd ((a : Nat) : Int) 4294967295 = ((a % Sf83.W : Nat) : Int) := by
  rw [bitAnd_m32, Int.natCast_emod]
  rfl
theorem xor_val (a b : Nat) : Builtin.bitXor ((a : Nat) : Int) ((b : Nat) : Int) = ((a ^^^ b : Nat) : Int) := by
  rw [Bits.bitXor_pp (Int.natCast_nonneg _) (Int.natCast_nonneg _)]
  rfl
theorem nv_set (l : List Nat) (i v : Nat) : (nv l).set i (V.int (v : Nat)) = nv (l.set i v) := by
  unfold nv
  rw [List.map_set]
theorem ixN_nat {n i : Nat} (h : i < n) : ixN n ((i : Nat) : Int) = some i := by
  unfold ixN
  rw [if_pos (Int.natCast_nonneg _), if_pos (by omega), Int.toNat_natCast]
abbrev st_quarter : Stmt := top 28
theorem sc_quarter : FnScope ["words", "places", "a", "b", "c", "d"] ["words", "places"] (defScope st_quarter) := ⟨rfl, rfl, rfl, by decide +kernel, rfl, by decide +kernel, by decide +kernel⟩
theorem bd_quarter : BindsOf "quarter" "quarter" st_quarter ["words", "places"] := fun _ _ _ _ _ _ us hl => match us, hl with | [_, _], _ => rfl
def spQuarter (K : PySem.W.Frag) : Sp := fun vs H Q _ => ∃ (a t : Addr) (l : List Nat) (q : Nat × Nat × Nat × Nat), vs = [.ref a, .ref t] ∧ H a = some (.lst (nv l)) ∧ M.Words l ∧ SqT K H t [.int (q.1 : Nat), .int (q.2.1 : Nat), .int (q.2.2.1 : Nat), .int (q.2.2.2 : Nat)] ∧ M.GoodQ q ∧ Q .non (upd H a (.lst (nv (Sf83.quarter l q))))
theorem get_word {l : List Nat} {i : Nat} (h : i < l.length) : atI (nv l) ((i : Nat) : Int) = some (V.int (l.getD i 0 : Nat)) := by
  refine atI_nat (nv_at ?_)
  rw [List.getElem?_eq_getElem h]
  simp [List.getD, h]
theorem SqT.upd_lst {H : Hp} {t a : Addr} {xs ys zs : List V} (h : SqT K H t xs) (ha : H a = some (.lst ys)) : SqT K (upd H a (.lst zs)) t xs := by
  rcases h with h | h
  · left
    have key : ∀ o, H t = some o → (∀ l, o ≠ .lst l) → upd H a (.lst zs) t = some o := fun o e no => by
      rw [upd_ne (fun z => no ys (by subst z; rw [ha] at e; exact (Option.some.inj e).symm))]
      exact e
    rcases h with h | ⟨o, h⟩
    · exact .inl (key _ h (fun l z => nomatch z))
    · exact .inr ⟨o, key _ h (fun l z => nomatch z)⟩
  · exact .inr h
theorem ok_quarter {f : Addr} {fd : FuncData} (F : Fun K "quarter" "quarter" st_quarter f fd) (G : Glb mg) (F_turned : Fn P w K mg base "turned" 1 ["word", "bits"] spTurned) : FnOk P w K mg base CX0 2 f fd ["words", "places"] (spQuarter K) := by
  refine F.ok sc_quarter (fun vs H Q E h => ?_) (fun cdv A outer s H vs Q E hr h => ?_)
  · obtain ⟨a, t, l, q, rfl, _⟩ := h
    rfl
  · obtain ⟨a, t, l, ⟨i, j, k, m⟩, rfl, ha, hW, hT, g, r⟩ := h
    obtain ⟨g1, g2, g3, g4, g5⟩ := g
    have r2 := r
    rw [M.quarter_put hW ⟨g1, g2, g3, g4, g5⟩] at r2
    have hl := hW.1
    have b1 := hW.getD i
    have b2 := hW.getD j
    have b3 := hW.getD k
    have b4 := hW.getD m
    refine ⟨_, (pss_cons (ps_set (i := 2) sc_quarter.nd rfl (Or.inl rfl) (pe_ix ix_list (pv 0) (pe_ix ix_tup (pv 1) pe_int (fun _ _ => rfl)) (fun _ _ => rfl))) (pss_cons (ps_set (i := 3) sc_quarter.nd rfl (Or.inl rfl) (pe_ix ix_list (pv 0) (pe_ix ix_tup (pv 1) pe_int (fun _ _ => rfl)) (fun _ _ => rfl))) (pss_cons (ps_set (i := 4) sc_quarter.nd rfl (Or.inl rfl) (pe_ix ix_list (pv 0) (pe_ix ix_tup (pv 1) pe_int (fun _ _ => rfl)) (fun _ _ => rfl))) (pss_cons (ps_set (i := 5) sc_quarter.nd rfl (Or.inl rfl) (pe_ix ix_list (pv 0) (pe_ix ix_tup (pv 1) pe_int (fun _ _ => rfl)) (fun _ _ => rfl))) (pss_cons (ps_set (i := 2) sc_quarter.nd rfl (Or.inl rfl) (pe_op op_and (pe_op op_add (pv 2) (pv 3)) (pe_gint G.mask))) (pss_cons (ps_set (i := 5) sc_quarter.nd rfl (Or.inl rfl) (pe_fn F_turned hr (pa_cons (pe_op op_xor (pv 5) (pv 2)) (pa_cons pe_int pa_nil)))) (pss_cons (ps_set (i := 4) sc_quarter.nd rfl (Or.inl rfl) (pe_op op_and (pe_op op_add (pv 4) (pv 5)) (pe_gint G.mask))) (pss_cons (ps_set (i := 3) sc_quarter.nd rfl (Or.inl rfl) (pe_fn F_turned hr (pa_cons (pe_op op_xor (pv 3) (pv 4)) (pa_cons pe_int pa_nil)))) (pss_cons (ps_set (i := 2) sc_quarter.nd rfl (Or.inl rfl) (pe_op op_and (pe_op op_add (pv 2) (pv 3)) (pe_gint G.mask))) (pss_cons (ps_set (i := 5) sc_quarter.nd rfl (Or.inl rfl) (pe_fn F_turned hr (pa_cons (pe_op op_xor (pv 5) (pv 2)) (pa_cons pe_int pa_nil)))) (pss_cons (ps_set (i := 4) sc_quarter.nd rfl (Or.inl rfl) (pe_op op_and (pe_op op_add (pv 4) (pv 5)) (pe_gint G.mask))) (pss_cons (ps_set (i := 3) sc_quarter.nd rfl (Or.inl rfl) (pe_fn F_turned hr (pa_cons (pe_op op_xor (pv 3) (pv 4)) (pa_cons pe_int pa_nil)))) (pss_cons (ps_asg (pv 2) (pg_sub (pv 0) (pe_ix ix_tup (pv 1) pe_int (fun _ _ => rfl)) set_list)) (pss_cons (ps_asg (pv 3) (pg_sub (pv 0) (pe_ix ix_tup (pv 1) pe_int (fun _ _ => rfl)) set_list)) (pss_cons (ps_asg (pv 4) (pg_sub (pv 0) (pe_ix ix_tup (pv 1) pe_int (fun _ _ => rfl)) set_list)) (pss_one (ps_asg (pv 5) (pg_sub (pv 0) (pe_ix ix_tup (pv 1) pe_int (fun _ _ => rfl)) set_list)))))))))))))))))), ?_⟩
    refine ⟨_, rfl, _, rfl, t, _, _, _, rfl, rfl, hT, rfl, a, _, _, _, rfl, rfl, SqL.of ha, get_word (by rw [hl]; exact g1), ?_⟩
    refine ⟨_, rfl, _, rfl, t, _, _, _, rfl, rfl, hT, rfl, a, _, _, _, rfl, rfl, SqL.of ha, get_word (by rw [hl]; exact g2), ?_⟩
    refine ⟨_, rfl, _, rfl, t, _, _, _, rfl, rfl, hT, rfl, a, _, _, _, rfl, rfl, SqL.of ha, get_word (by rw [hl]; exact g3), ?_⟩
    refine ⟨_, rfl, _, rfl, t, _, _, _, rfl, rfl, hT, rfl, a, _, _, _, rfl, rfl, SqL.of ha, get_word (by rw [hl]; exact g4), ?_⟩
    dsimp only at g1 g2 g3 g4 r2 ⊢
    show _
    generalize ea : l.getD i 0 = a0 at *
    generalize eb : l.getD j 0 = b0 at *
    generalize ec : l.getD k 0 = c0 at *
    generalize ed : l.getD m 0 = d0 at *
    refine ⟨_, rfl, _, rfl, _, _, rfl, rfl, _, _, rfl, rfl, ?_⟩
    try dsimp only [L2.start, Z1, Z2, Z3, Z4, Z5, Z6, List.replicate, Z7, Z8, Nat.reduceAdd, Nat.reduceSub, Nat.zero_add]
    rw [add_mask]
    have d1 := M.turned_lt (n := 16) (M.xor_lt b4 (M.mod_lt (a0 + b0))) (by decide)
    refine ⟨_, rfl, _, rfl, _, _, rfl, rfl, d0 ^^^ ((a0 + b0) % Sf83.W), 16, congrArg (fun z => [V.int z, V.int 16]) (xor_val _ _), M.xor_lt b4 (M.mod_lt _), by decide, ?_⟩
    try dsimp only [L2.start, Z1, Z2, Z3, Z4, Z5, Z6, List.replicate, Z7, Z8, Nat.reduceAdd, Nat.reduceSub, Nat.zero_add]
    refine ⟨_, rfl, _, rfl, _, _, rfl, rfl, _, _, rfl, rfl, ?_⟩
    try dsimp only [L2.start, Z1, Z2, Z3, Z4, Z5, Z6, List.replicate, Z7, Z8, Nat.reduceAdd, Nat.reduceSub, Nat.zero_add]
    rw [add_mask]
    have c1 := M.mod_lt (c0 + Sf83.turned (d0 ^^^ ((a0 + b0) % Sf83.W)) 16)
    refine ⟨_, rfl, _, rfl, _, _, rfl, rfl, b0 ^^^ ((c0 + Sf83.turned (d0 ^^^ ((a0 + b0) % Sf83.W)) 16) % Sf83.W), 12, congrArg (fun z => [V.int z, V.int 12]) (xor_val _ _), M.xor_lt b2 c1, by decide, ?_⟩
    have bb1 := M.turned_lt (n := 12) (M.xor_lt b2 c1) (by decide)
    try dsimp only [L2.start, Z1, Z2, Z3, Z4, Z5, Z6, List.replicate, Z7, Z8, Nat.reduceAdd, Nat.reduceSub, Nat.zero_add]
    refine ⟨_, rfl, _, rfl, _, _, rfl, rfl, _, _, rfl, rfl, ?_⟩
    try dsimp only [L2.start, Z1, Z2, Z3, Z4, Z5, Z6, List.replicate, Z7, Z8, Nat.reduceAdd, Nat.reduceSub, Nat.zero_add]
    rw [add_mask]
    have a2 := M.mod_lt ((a0 + b0) % Sf83.W + Sf83.turned (b0 ^^^ ((c0 + Sf83.turned (d0 ^^^ ((a0 + b0) % Sf83.W)) 16) % Sf83.W)) 12)
    refine ⟨_, rfl, _, rfl, _, _, rfl, rfl, Sf83.turned (d0 ^^^ ((a0 + b0) % Sf83.W)) 16 ^^^ (((a0 + b0) % Sf83.W + Sf83.turned (b0 ^^^ ((c0 + Sf83.turned (d0 ^^^ ((a0 + b0) % Sf83.W)) 16) % Sf83.W)) 12) % Sf83.W), 8, congrArg (fun z => [V.int z, V.int 8]) (xor_val _ _), M.xor_lt d1 a2, by decide, ?_⟩
    try dsimp only [L2.start, Z1, Z2, Z3, Z4, Z5, Z6, List.replicate, Z7, Z8, Nat.reduceAdd, Nat.reduceSub, Nat.zero_add]
    refine ⟨_, rfl, _, rfl, _, _, rfl, rfl, _, _, rfl, rfl, ?_⟩
    try dsimp only [L2.start, Z1, Z2, Z3, Z4, Z5, Z6, List.replicate, Z7, Z8, Nat.reduceAdd, Nat.reduceSub, Nat.zero_add]
    rw [add_mask]
    have c2 := M.mod_lt ((c0 + Sf83.turned (d0 ^^^ ((a0 + b0) % Sf83.W)) 16) % Sf83.W + Sf83.turned (Sf83.turned (d0 ^^^ ((a0 + b0) % Sf83.W)) 16 ^^^ (((a0 + b0) % Sf83.W + Sf83.turned (b0 ^^^ ((c0 + Sf83.turned (d0 ^^^ ((a0 + b0) % Sf83.W)) 16) % Sf83.W)) 12) % Sf83.W)) 8)
    refine ⟨_, rfl, _, rfl, _, _, rfl, rfl, Sf83.turned (b0 ^^^ ((c0 + Sf83.turned (d0 ^^^ ((a0 + b0) % Sf83.W)) 16) % Sf83.W)) 12 ^^^ _, 7, congrArg (fun z => [V.int z, V.int 7]) (xor_val _ _), M.xor_lt bb1 c2, by decide, ?_⟩
    try dsimp only [L2.start, Z1, Z2, Z3, Z4, Z5, Z6, List.replicate, Z7, Z8, Nat.reduceAdd, Nat.reduceSub, Nat.zero_add]
    refine ⟨_, rfl, _, rfl, _, rfl, t, _, _, _, rfl, rfl, hT, rfl, a, _, _, i, rfl, rfl, ha, ixN_nat (by rw [nv_len, hl]; exact g1), ?_⟩
    refine ⟨_, rfl, _, rfl, _, rfl, t, _, _, _, rfl, rfl, SqT.upd_lst hT ha, rfl, a, _, _, j, rfl, rfl, upd_same, ixN_nat (by rw [List.length_set, nv_len, hl]; exact g2), ?_⟩
    rw [upd_upd]
    refine ⟨_, rfl, _, rfl, _, rfl, t, _, _, _, rfl, rfl, SqT.upd_lst hT ha, rfl, a, _, _, k, rfl, rfl, upd_same, ixN_nat (by rw [List.length_set, List.length_set, nv_len, hl]; exact g3), ?_⟩
    rw [upd_upd]
    refine ⟨_, rfl, _, rfl, _, rfl, t, _, _, _, rfl, rfl, SqT.upd_lst hT ha, rfl, a, _, _, m, rfl, rfl, upd_same, ixN_nat (by rw [List.length_set, List.length_set, List.length_set, nv_len, hl]; exact g4), ?_⟩
    rw [upd_upd]
    rw [nv_set, nv_set, nv_set, nv_set]
    exact r2
abbrev st_ten_rounds : Stmt := top 29
theorem sc_ten_rounds : FnScope ["start", "words", "turn", "places"] ["start"] (defScope st_ten_rounds) := ⟨rfl, rfl, rfl, by decide +kernel, rfl, by decide +kernel, by decide +kernel⟩
theorem bd_ten_rounds : BindsOf "ten_rounds" "ten_rounds" st_ten_rounds ["start"] := fun _ _ _ _ _ _ us hl => match us, hl with | [_], _ => rfl
def spRounds (K : PySem.W.Frag) : Sp := fun vs H Q _ => ∃ (a : Addr) (l : List Nat), vs = [.ref a] ∧ SqL K H a (nv l) ∧ M.Words l ∧ RetL H (nv (Sf83.rounds l)) Q
theorem fold_snoc {l : List (Nat × Nat × Nat × Nat)} {i : Nat} {q : Nat × Nat × Nat × Nat} (h : l[i]? = some q) (s : List Nat) : (l.take (i + 1)).foldl Sf83.quarter s = Sf83.quarter ((l.take i).foldl Sf83.quarter s) q := by
  rw [List.take_succ, h, Option.toList_some, List.foldl_append]
  rfl
theorem Paired.at {α β : Type} {R : α → β → Prop} : ∀ {xs : List α} {ys : List β} {i : Nat} {x : α}, Paired R xs ys → xs[i]? = some x → ∃ y, ys[i]? = some y ∧ R x y
  | _, _, _, _, .nil, e => by simp at e
  | _, _, 0, _, .cons r _, e => by simp at e; subst e; exact ⟨_, rfl, r⟩
  | _, _, i + 1, x, .cons _ t, e => by
    obtain ⟨u, h1, h2⟩ := Paired.at (i := i) (x := x) t (by simpa using e)
    exact ⟨u, by simpa using h1, h2⟩
theorem refs_get {as : List Addr} {i : Nat} {x : V} (h : (as.map V.ref)[i]? = some x) : ∃ a, as[i]? = some a ∧ x = V.ref a := by
  rw [List.getElem?_map] at h
  cases e : as[i]? with
  | none => rw [e] at h; cases h
  | some n => rw [e] at h; exact ⟨n, rfl, (Option.some.inj h).symm⟩
theorem ok_rounds {f : Addr} {fd : FuncData} (F : Fun K "ten_rounds" "ten_rounds" st_ten_rounds f fd) (G : Glb mg) (T : Tups K mg) (F_quarter : Fn P w K mg base "quarter" 2 ["words", "places"] (spQuarter K)) : FnOk P w K mg base CX0 3 f fd ["start"] (spRounds K) := by
  obtain ⟨qa, qs, G_QUARTERS, hqs, hpa⟩ := T.qs
  refine F.ok sc_ten_rounds (fun vs H Q E h => ?_) (fun cdv A outer s H vs Q E hr h => ?_)
  · obtain ⟨a, l, rfl, _⟩ := h
    rfl
  · obtain ⟨a, l, rfl, hS, hW, r⟩ := h
    refine ⟨_, (pss_cons (ps_set (i := 1) sc_ten_rounds.nd rfl (Or.inl rfl) (pe_callTy call_list_of rfl G.list PyProof.Rows.boot_list (pa_cons (pv 0) pa_nil))) (pss_cons (ps_for PassesOwn.never rfl (pi_range1 rfl G.range (pa_cons pe_int pa_nil)) (pg_name (i := 2) sc_ten_rounds.nd rfl (Or.inl rfl)) (pss_one (ps_for PassesOwn.never rfl (pi_tup (pe_gref G_QUARTERS)) (pg_name (i := 3) sc_ten_rounds.nd rfl (Or.inl rfl)) (pss_one (ps_expr (pe_fn F_quarter hr (pa_cons (pv 1) (pa_cons (pv 3) pa_nil)))))))) (pss_one (ps_ret (pv 1))))), ?_⟩
    refine ⟨_, rfl, a, _, rfl, .inl hS, fun p hp => ?_⟩
    try dsimp only [L2.start, Z1, Z2, Z3, Z4, Z5, Z6, List.replicate, Z7, Z8, Nat.reduceAdd, Nat.reduceSub, Nat.zero_add]
    refine ⟨10, rfl, by decide, by decide, for_range (n := 10) (fun i σ H' => ∃ v2 v3 : Option V, σ = [some (.ref a), some (.ref p), v2, v3] ∧ Same H H' ∧ H' p = some (.lst (nv (M.turns i l)))) ⟨none, none, rfl, (Same.refl H).upd hp, upd_same⟩ ?_ ?_⟩
    · rintro i σ H' hi ⟨v2, v3, rfl, s1, e1⟩
      refine ⟨qa, rfl, ⟨_, hqs _⟩, for_tup (K := K) (a := qa) (xs := qs.map V.ref) (fun j σ H2 => ∃ v3 : Option V, σ = [some (.ref a), some (.ref p), some (.int (0 + (i : Nat))), v3] ∧ Same H H2 ∧ H2 p = some (.lst (nv ((M.QS.take j).foldl Sf83.quarter (M.turns i l)))))
        ⟨v3, rfl, s1, e1⟩ (fun _ _ H2 _ _ => hqs H2) ?_ ?_⟩
      · rintro j y σ H2 hy ⟨v3, rfl, s2, e2⟩
        obtain ⟨qb, hqb, rfl⟩ := refs_get hy
        obtain ⟨q, hq, hT⟩ := Paired.at hpa hqb
        have hg := M.goodQS q (List.mem_of_getElem? hq)
        have hW2 : M.Words ((M.QS.take j).foldl Sf83.quarter (M.turns i l)) := (hW.turns i).fold _ fun x hx => M.goodQS x (List.mem_of_mem_take hx)
        refine ⟨_, rfl, _, rfl, p, qb, _, q, rfl, e2, hW2, hT H2, hg, ?_⟩
        refine ⟨_, rfl, s2.upd hp, ?_⟩
        rw [upd_same, fold_snoc hq]
      · rintro σ H2 ⟨v3, rfl, s2, e2⟩
        refine ⟨_, v3, rfl, s2, ?_⟩
        rw [e2, List.length_map, Paired.length hpa, List.take_length]
        rfl
    · rintro σ H' ⟨v2, v3, rfl, s1, e1⟩
      rw [← M.rounds_eq] at e1
      exact ⟨_, rfl, r _ _ s1 hp e1⟩
end
theorem pg_tupK {X : Cx} {K : PySem.W.Frag} {es : List Expr} {k : Nat} {pos : Pos} {t : TGs} {n : Nat} (hK : X.K = K) (hc : X.calm = true) (h : PGs X es t)
    (hn : (assignEach es X.env).length = n := by rfl) (hst : (assignEach es X.env).findIdx? (·.1) = none := by rfl) : PG X (.Tuple es k pos) (gTup K n t) := by
  subst hK
  exact pg_tup hc h hn hst
def gTwo (K : PySem.W.Frag) (i j : Nat) : TG := gTup K 2 (gCons (gName i) (gCons (gName j) gNil))
theorem gTwo_mono (K : PySem.W.Frag) (i j : Nat) : ∀ σ x H (Q Q' : L2.St → Hp → Prop), (∀ s h, Q s h → Q' s h) → gTwo K i j x σ H Q → gTwo K i j x σ H Q' := by
  rintro σ x H Q Q' h ⟨a, xs, e, hq, hl, v, r, e1, v2, r2, e2, e3, z⟩
  exact ⟨a, xs, e, hq, hl, v, r, e1, v2, r2, e2, e3, h _ _ z⟩
theorem lc_zip {K : PySem.W.Frag} {a b : Addr} {xs ys : List Nat} {zs : List Nat} {i5 i6 : Nat} {te : TE} {vs : List Nat} {σ : L2.St} {H1 : Hp} {D : Addr} {Qd : Hp → Prop} (ha : SqL K H1 a (nv xs)) (hb : SqL K H1 b (nv ys)) (hD : H1 D = none)
    (hl : zs.length = min xs.length ys.length) (hz : zs.length ≤ 100000)
    (hw : ∀ v w, wipe (((wipe σ vs).set i5 (some v)).set i6 (some w)) vs = wipe σ vs)
    (hs : ∀ (i x y z : Nat) (H2 : Hp) (KK : V → Hp → Prop), xs[i]? = some x → ys[i]? = some y → zs[i]? = some z → KK (.int (z : Nat)) H2 → te (((wipe σ vs).set i5 (some (.int (x : Nat)))).set i6 (some (.int (y : Nat)))) H2 KK)
    (hd : ∀ H, Same H1 H → H D = some (.lst (nv zs)) → Qd H) :
    ∃ W : Nat → Nat → Hp → Prop, (∃ m, W 0 m (upd H1 D (.lst []))) ∧ ∀ i m H, W i m H →
      ((Itz K a b).stop i H ∧ Qd H) ∨ ((Itz K a b).go i H ∧ ∃ Nx : Hp → Prop, (∀ H', Nx H' → ∃ m', m' < m ∧ W (i + 1) m' H') ∧ ∀ x H', (Itz K a b).yld i H x H' → gTwo K i5 i6 x (wipe σ vs) H' fun σ2 H2 => wipe σ2 vs = wipe σ vs ∧ tYes σ2 H2 fun b H3 =>
        if b = true then te σ2 H3 fun y H4 => ∃ acc, H4 D = some (.lst acc) ∧ acc.length < sizeLine ∧ Nx (upd H4 D (.lst (acc ++ [y]))) else Nx H3) := by
  refine lc_gen (n := zs.length) (nv zs) (nv_len _) (by rw [sizeLine_eq]; omega) hD ?_ ?_ ?_ hd (gTwo_mono K i5 i6) tYes_mono
  · intro i H hi s
    exact ⟨_, _, _, _, s.seq ha, s.seq hb, nv_at (List.getElem?_eq_getElem (by omega)), nv_at (List.getElem?_eq_getElem (by omega))⟩
  · intro H s
    refine ⟨_, _, s.seq ha, s.seq hb, ?_⟩
    rw [nv_len, nv_len]
    omega
  · intro i H x H' y hi s yl hy
    obtain ⟨T, u, v, rfl, hT, rfl, h1, h2⟩ := yl
    obtain ⟨z, hz', rfl⟩ := nv_get hy
    obtain ⟨p, hp, rfl⟩ := nv_get (h1 _ (s.seq ha))
    obtain ⟨q, hq, rfl⟩ := nv_get (h2 _ (s.seq hb))
    refine ⟨(Same.refl _).upd hT, fun KK hK => ?_⟩
    refine ⟨T, _, rfl, SqT.of upd_same, rfl, _, _, rfl, _, _, rfl, rfl, hw _ _, ?_⟩
    exact iteT (B := False) (hs i p q z _ KK hp hq hz' (hK _ (Same.refl _)))
section
variable {P : Program} {w : World} {K : PySem.W.Frag} {mg : Str → Option Value} {base : Heap}
abbrev st_block : Stmt := top 30
theorem sc_block : FnScope ["key", "number", "nonce", "start", "words", "word", "first"] ["key", "number", "nonce"] (defScope st_block) := ⟨rfl, rfl, rfl, by decide +kernel, rfl, by decide +kernel, by decide +kernel⟩
theorem bd_block : BindsOf "block" "block" st_block ["key", "number", "nonce"] := fun _ _ _ _ _ _ us hl => match us, hl with | [_, _, _], _ => rfl
def spBlock (K : PySem.W.Frag) : Sp := fun vs H Q _ => ∃ (a b : Addr) (k c : List UInt8) (n : Nat), vs = [.ref a, .int n, .ref b] ∧ SqL K H a (bv k) ∧ SqL K H b (bv c) ∧ k.length = 32 ∧ c.length = 12 ∧ RetL H (bv (Sf83.block k n c)) Q
theorem RetL.go {H H1 : Hp} {xs : List V} {Q : VK} (r : RetL H xs Q) {p : Addr} (s : Same H H1) (n : H p = none) (e : H1 p = some (.lst xs)) : Q (.ref p) H1 := r H1 p s n e
theorem ok_block {f : Addr} {fd : FuncData} (F : Fun K "block" "block" st_block f fd) (G : Glb mg) (T : Tups K mg) (F_words_of : Fn P w K mg base "words_of" 2 ["row"] (spWords K)) (F_ten_rounds : Fn P w K mg base "ten_rounds" 3 ["start"] (spRounds K))
    (F_bytes_of_words : Fn P w K mg base "bytes_of_words" 2 ["words"] (spUnwords K)) : FnOk P w K mg base CX0 4 f fd ["key", "number", "nonce"] (spBlock K) := by
  obtain ⟨ca, G_CONSTANTS, hc⟩ := T.cst
  refine F.ok sc_block (fun vs H Q E h => ?_) (fun cdv A outer s H vs Q E hr h => ?_)
  · obtain ⟨a, b, k, c, n, rfl, _⟩ := h
    rfl
  · obtain ⟨a, b, k, c, n, rfl, ha, hb, hk, hcl, r⟩ := h
    refine ⟨_, (pss_cons (ps_set (i := 3) sc_block.nd rfl (Or.inl rfl) (pe_op op_cat (pe_op op_cat (pe_op op_cat (pe_callTy call_list_of rfl G.list PyProof.Rows.boot_list (pa_cons (pe_gref G_CONSTANTS) pa_nil)) (pe_fn F_words_of hr (pa_cons (pv 0) pa_nil))) (pe_lst (pa_cons (pe_op op_and (pv 1) (pe_gint G.mask)) pa_nil))) (pe_fn F_words_of hr (pa_cons (pv 2) pa_nil)))) (pss_cons (ps_set (i := 4) sc_block.nd rfl (Or.inl rfl) (pe_fn F_ten_rounds hr (pa_cons (pv 3) pa_nil))) (pss_one (ps_ret (pe_fn F_bytes_of_words hr (pa_cons (pe_lc (own := [("word", 5), ("first", 6)]) rfl sc_block.nd (pi_zip rfl G.zip (pa_cons (pv 4) (pa_cons (pv 3) pa_nil))) (blkOk_by rfl) (fun _ _ _ _ _ => pg_tupK (K := K) (n := 2) rfl rfl (pgs_cons (pg_name (i := 5) sc_block.nd rfl (Or.inl rfl)) (pgs_cons (pg_name (i := 6) sc_block.nd rfl (Or.inl rfl)) pgs_nil))) (fun _ _ _ _ _ => pts_nil) (fun _ _ _ _ _ => (pe_op op_and (pe_op op_add (pv 5) (pv 6)) (pe_gint G.mask)))) pa_nil)))))), ?_⟩
    refine ⟨ca, _, rfl, .inr (hc _), fun l0 n0 => ?_⟩
    have t0 : Same H (upd H l0 (.lst (nv Sf83.SIGMA))) := (Same.refl H).upd n0
    refine ⟨_, rfl, a, k, 8, rfl, t0.seq ha, by omega, by decide, fun H1 p1 s1 n1 e1 => ?_⟩
    have t1 := t0.trans s1
    refine ⟨l0, p1, _, _, rfl, rfl, s1 _ _ upd_same, e1, by rw [nv_len, nv_len, M.wordsOf_len, sizeLine_eq]; decide, fun p2 n2 => ?_⟩
    have t2 : Same H (upd H1 p2 (.lst (nv Sf83.SIGMA ++ nv (Sf83.wordsOf 8 k)))) := t1.upd (t1.free n2)
    refine ⟨_, rfl, _, _, rfl, rfl, (by show 1 ≤ sizeLine; rw [sizeLine_eq]; decide), fun p3 n3 => ?_⟩
    have t3 : Same H (upd (upd H1 p2 (.lst (nv Sf83.SIGMA ++ nv (Sf83.wordsOf 8 k)))) p3 (.lst [V.int (Builtin.bitAnd (n : Nat) 4294967295)])) := t2.upd (t2.free n3)
    refine ⟨p2, p3, _, _, rfl, rfl, (upd_ne (ne_of_none upd_same n3)).trans upd_same, upd_same, by rw [List.length_append, nv_len, nv_len, M.wordsOf_len, sizeLine_eq]; show 4 + 8 + 1 ≤ 16777216; decide, fun p4 n4 => ?_⟩
    have t4 := t3.upd (o := .lst ((nv Sf83.SIGMA ++ nv (Sf83.wordsOf 8 k)) ++ [V.int (Builtin.bitAnd (n : Nat) 4294967295)])) (t3.free n4)
    refine ⟨_, rfl, b, c, 3, rfl, t4.seq hb, by omega, by decide, fun H5 p5 s5 n5 e5 => ?_⟩
    have t5 := t4.trans s5
    refine ⟨p4, p5, _, _, rfl, rfl, s5 _ _ upd_same, e5, by rw [List.length_append, List.length_append, nv_len, nv_len, nv_len, M.wordsOf_len, M.wordsOf_len, sizeLine_eq]; show 4 + 8 + 1 + 3 ≤ 16777216; decide, fun p6 n6 => ?_⟩
    have es : (nv Sf83.SIGMA ++ nv (Sf83.wordsOf 8 k)) ++ [V.int (Builtin.bitAnd (n : Nat) 4294967295)] ++ nv (Sf83.wordsOf 3 c) = nv (Sf83.SIGMA ++ (Sf83.wordsOf 8 k ++ ((n % Sf83.W) :: Sf83.wordsOf 3 c))) := by
      rw [one_mask, nv_app, nv_app, List.append_assoc, List.append_assoc]
      rfl
    rw [es]
    have t6 := t5.upd (o := .lst (nv (Sf83.SIGMA ++ (Sf83.wordsOf 8 k ++ ((n % Sf83.W) :: Sf83.wordsOf 3 c))))) (t5.free n6)
    try dsimp only [L2.start, Z1, Z2, Z3, Z4, Z5, Z6, List.replicate, Z7, Z8, Nat.reduceAdd, Nat.reduceSub, Nat.zero_add]
    have hW := M.words_block k n c
    have be := M.block_eq k n c
    generalize Sf83.SIGMA ++ (Sf83.wordsOf 8 k ++ ((n % Sf83.W) :: Sf83.wordsOf 3 c)) = st at *
    refine ⟨_, rfl, p6, st, rfl, SqL.of upd_same, hW, fun H7 p7 s7 n7 e7 => ?_⟩
    have t7 := t6.trans s7
    try dsimp only [L2.start, Z1, Z2, Z3, Z4, Z5, Z6, List.replicate, Z7, Z8, Nat.reduceAdd, Nat.reduceSub, Nat.zero_add]
    refine ⟨_, rfl, _, rfl, p7, p6, _, _, rfl, SqL.of e7, SqL.of (s7 _ _ upd_same), fun D hD => ?_⟩
    refine lc_zip (xs := Sf83.rounds st) (ys := st) (zs := ((Sf83.rounds st).zip st).map fun (x : Nat × Nat) => (x.1 + x.2) % Sf83.W) (SqL.of e7) (SqL.of (s7 _ _ upd_same)) hD (by rw [List.length_map, List.length_zip]) (by rw [List.length_map, List.length_zip, hW.1]; omega) (fun v w => rfl) ?_ ?_
    · intro i x y z H2 KK hx hy hz hKK
      refine ⟨_, rfl, _, rfl, _, _, rfl, rfl, _, _, rfl, rfl, ?_⟩
      try dsimp only [L2.start, Z1, Z2, Z3, Z4, Z5, Z6, List.replicate, Z7, Z8, Nat.reduceAdd, Nat.reduceSub, Nat.zero_add]
      rw [add_mask]
      rw [List.getElem?_map, List.getElem?_zip_eq_some (z := (x, y)) |>.mpr ⟨hx, hy⟩] at hz
      have hz := Option.some.inj hz
      subst hz
      exact hKK
    · intro H8 s8 e8
      refine ⟨D, _, rfl, SqL.of e8, by rw [List.length_map, List.length_zip, hW.1]; omega, ?_⟩
      rw [← be]
      exact r.of (t7.trans s8)
abbrev st_derived : Stmt := top 31
theorem sc_derived : FnScope ["key", "row", "words"] ["key", "row"] (defScope st_derived) := ⟨rfl, rfl, rfl, by decide +kernel, rfl, by decide +kernel, by decide +kernel⟩
theorem bd_derived : BindsOf "derived" "derived" st_derived ["key", "row"] := fun _ _ _ _ _ _ us hl => match us, hl with | [_, _], _ => rfl
def spDerived (K : PySem.W.Frag) : Sp := fun vs H Q _ => ∃ (a b : Addr) (k c : List UInt8), vs = [.ref a, .ref b] ∧ SqL K H a (bv k) ∧ SqL K H b (bv c) ∧ k.length = 32 ∧ c.length = 16 ∧ RetL H (bv (Sf83.derived k c)) Q
theorem ok_derived {f : Addr} {fd : FuncData} (F : Fun K "derived" "derived" st_derived f fd) (G : Glb mg) (T : Tups K mg) (F_words_of : Fn P w K mg base "words_of" 2 ["row"] (spWords K)) (F_ten_rounds : Fn P w K mg base "ten_rounds" 3 ["start"] (spRounds K))
    (F_bytes_of_words : Fn P w K mg base "bytes_of_words" 2 ["words"] (spUnwords K)) : FnOk P w K mg base CX0 4 f fd ["key", "row"] (spDerived K) := by
  obtain ⟨ca, G_CONSTANTS, hc⟩ := T.cst
  refine F.ok sc_derived (fun vs H Q E h => ?_) (fun cdv A outer s H vs Q E hr h => ?_)
  · obtain ⟨a, b, k, c, rfl, _⟩ := h
    rfl
  · obtain ⟨a, b, k, c, rfl, ha, hb, hk, hcl, r⟩ := h
    refine ⟨_, (pss_cons (ps_set (i := 2) sc_derived.nd rfl (Or.inl rfl) (pe_fn F_ten_rounds hr (pa_cons (pe_op op_cat (pe_op op_cat (pe_callTy call_list_of rfl G.list PyProof.Rows.boot_list (pa_cons (pe_gref G_CONSTANTS) pa_nil)) (pe_fn F_words_of hr (pa_cons (pv 0) pa_nil))) (pe_fn F_words_of hr (pa_cons (pv 1) pa_nil))) pa_nil))) (pss_one (ps_ret (pe_fn F_bytes_of_words hr (pa_cons (pe_op op_cat (pe_slice sl_list (pv 2) po_none (po_some pe_int)) (pe_slice sl_list (pv 2) (po_some pe_int) po_none)) pa_nil))))), ?_⟩
    refine ⟨ca, _, rfl, .inr (hc _), fun l0 n0 => ?_⟩
    have t0 : Same H (upd H l0 (.lst (nv Sf83.SIGMA))) := (Same.refl H).upd n0
    refine ⟨_, rfl, a, k, 8, rfl, t0.seq ha, by omega, by decide, fun H1 p1 s1 n1 e1 => ?_⟩
    have t1 := t0.trans s1
    refine ⟨l0, p1, _, _, rfl, rfl, s1 _ _ upd_same, e1, by rw [nv_len, nv_len, M.wordsOf_len, sizeLine_eq]; decide, fun p2 n2 => ?_⟩
    have t2 : Same H (upd H1 p2 (.lst (nv Sf83.SIGMA ++ nv (Sf83.wordsOf 8 k)))) := t1.upd (t1.free n2)
    refine ⟨_, rfl, b, c, 4, rfl, t2.seq hb, by omega, by decide, fun H5 p5 s5 n5 e5 => ?_⟩
    have t5 := t2.trans s5
    refine ⟨p2, p5, _, _, rfl, rfl, s5 _ _ upd_same, e5, by rw [List.length_append, nv_len, nv_len, nv_len, M.wordsOf_len, M.wordsOf_len, sizeLine_eq]; decide, fun p6 n6 => ?_⟩
    have es : (nv Sf83.SIGMA ++ nv (Sf83.wordsOf 8 k)) ++ nv (Sf83.wordsOf 4 c) = nv (Sf83.SIGMA ++ (Sf83.wordsOf 8 k ++ Sf83.wordsOf 4 c)) := by
      rw [nv_app, nv_app, List.append_assoc]
    rw [es]
    have t6 := t5.upd (o := .lst (nv (Sf83.SIGMA ++ (Sf83.wordsOf 8 k ++ Sf83.wordsOf 4 c)))) (t5.free n6)
    have hW := M.words_derived k c
    have be := M.derived_eq k c
    generalize Sf83.SIGMA ++ (Sf83.wordsOf 8 k ++ Sf83.wordsOf 4 c) = st at *
    refine ⟨p6, st, rfl, SqL.of upd_same, hW, fun H7 p7 s7 n7 e7 => ?_⟩
    have t7 := t6.trans s7
    try dsimp only [L2.start, Z1, Z2, Z3, Z4, Z5, Z6, List.replicate, Z7, Z8, Nat.reduceAdd, Nat.reduceSub, Nat.zero_add]
    refine ⟨_, rfl, _, rfl, p7, _, rfl, SqL.of e7, fun p8 n8 => ?_⟩
    rw [show (4 : Int) = ((4 : Nat) : Int) from rfl, cut_xn, nv_take]
    have t8 := t7.upd (o := .lst (nv ((Sf83.rounds st).take 4))) (t7.free n8)
    refine ⟨_, rfl, _, rfl, p7, _, rfl, SqL.of ((upd_ne (ne_of_none e7 n8)).trans e7), fun p9 n9 => ?_⟩
    rw [show (12 : Int) = ((12 : Nat) : Int) from rfl, cut_nx, nv_drop]
    have t9 := t8.upd (o := .lst (nv ((Sf83.rounds st).drop 12))) (t8.free n9)
    refine ⟨p8, p9, _, _, rfl, rfl, (upd_ne (ne_of_none upd_same n9)).trans upd_same, upd_same, by rw [nv_len, nv_len, List.length_take, List.length_drop, hW.rounds.1, sizeLine_eq]; decide, fun p10 n10 => ?_⟩
    have t10 := t9.upd (o := .lst (nv ((Sf83.rounds st).take 4) ++ nv ((Sf83.rounds st).drop 12))) (t9.free n10)
    refine ⟨p10, (Sf83.rounds st).take 4 ++ (Sf83.rounds st).drop 12, rfl, SqL.of (by rw [upd_same, nv_app]), by rw [List.length_append, List.length_take, List.length_drop, hW.rounds.1]; decide, ?_⟩
    rw [← be]
    exact r.of t10
abbrev st_mixed : Stmt := top 32
theorem sc_mixed : FnScope ["key", "row"] ["key", "row"] (defScope st_mixed) := ⟨rfl, rfl, rfl, by decide +kernel, rfl, by decide +kernel, by decide +kernel⟩
theorem bd_mixed : BindsOf "mixed" "mixed" st_mixed ["key", "row"] := fun _ _ _ _ _ _ us hl => match us, hl with | [_, _], _ => rfl
def spMixed (K : PySem.W.Frag) : Sp := fun vs H Q _ => ∃ (a b : Addr) (k c : List UInt8), vs = [.ref a, .ref b] ∧ SqL K H a (bv k) ∧ SqL K H b (bv c) ∧ k.length = 32 ∧ c.length = 32 ∧ RetL H (bv (Sf83.mixed k c)) Q
theorem ok_mixed {f : Addr} {fd : FuncData} (F : Fun K "mixed" "mixed" st_mixed f fd) (G : Glb mg) (F_derived : Fn P w K mg base "derived" 4 ["key", "row"] (spDerived K)) : FnOk P w K mg base CX0 5 f fd ["key", "row"] (spMixed K) := by
  refine F.ok sc_mixed (fun vs H Q E h => ?_) (fun cdv A outer s H vs Q E hr h => ?_)
  · obtain ⟨a, b, k, c, rfl, _⟩ := h
    rfl
  · obtain ⟨a, b, k, c, rfl, ha, hb, hk, hcl, r⟩ := h
    refine ⟨_, (pss_one (ps_ret (pe_fn F_derived hr (pa_cons (pe_fn F_derived hr (pa_cons (pv 0) (pa_cons (pe_slice sl_list (pv 1) po_none (po_some pe_int)) pa_nil))) (pa_cons (pe_slice sl_list (pv 1) (po_some pe_int) po_none) pa_nil))))), ?_⟩
    refine ⟨_, rfl, _, rfl, _, rfl, b, _, rfl, hb, fun p1 n1 => ?_⟩
    rw [show (16 : Int) = ((16 : Nat) : Int) from rfl, cut_xn, bv_take]
    have t1 : Same H (upd H p1 (.lst (bv (c.take 16)))) := (Same.refl H).upd n1
    refine ⟨a, p1, k, c.take 16, rfl, t1.seq ha, SqL.of upd_same, hk, by rw [List.length_take]; omega, fun H2 p2 s2 n2 e2 => ?_⟩
    have t2 := t1.trans s2
    refine ⟨_, rfl, _, rfl, b, _, rfl, t2.seq hb, fun p3 n3 => ?_⟩
    rw [cut_nx, bv_drop]
    have t3 := t2.upd (o := .lst (bv (c.drop 16))) (t2.free n3)
    refine ⟨p2, p3, _, c.drop 16, rfl, SqL.of ((upd_ne (ne_of_none e2 n3)).trans e2), SqL.of upd_same, M.derived_len _ _, by rw [List.length_drop]; omega, ?_⟩
    exact r.of t3
end
section
variable {P : Program} {w : World} {K : PySem.W.Frag} {mg : Str → Option Value} {base : Heap}
abbrev st_tag : Stmt := top 39
theorem sc_tag : FnScope ["key", "row", "r", "total", "place", "part"] ["key", "row"] (defScope st_tag) := ⟨rfl, rfl, rfl, by decide +kernel, rfl, by decide +kernel, by decide +kernel⟩
theorem bd_tag : BindsOf "tag" "tag" st_tag ["key", "row"] := fun _ _ _ _ _ _ us hl => match us, hl with | [_, _], _ => rfl
def spTag (K : PySem.W.Frag) : Sp := fun vs H Q _ => ∃ (a b : Addr) (k c : List UInt8), vs = [.ref a, .ref b] ∧ SqL K H a (bv k) ∧ SqL K H b (bv c) ∧ k.length = 32 ∧ c.length ≤ 1000000 ∧ RetL H (bv (Sf83.tagOf k c)) Q
theorem sums_lt (r : Nat) (b : List UInt8) : ∀ i, M.sums r b i < 2 ^ 130
  | 0 => by show 0 < 2 ^ 130; decide
  | i + 1 => by
    have h : M.sums r b (i + 1) < Sf83.Q := Nat.mod_lt _ (by decide)
    exact Nat.lt_trans h (by decide)
theorem clamp_val (x : Nat) : Builtin.bitAnd ((x : Nat) : Int) 21267647620597763993911028882763415551 = ((x &&& Sf83.CLAMP : Nat) : Int) := by
  rw [bitAnd_pp (Int.natCast_nonneg _) (by decide)]
  rfl
theorem clamp_lt (x : Nat) : x &&& Sf83.CLAMP < 2 ^ 128 := Nat.lt_of_le_of_lt Nat.and_le_right (by decide)
theorem snoc_one (b : List UInt8) : Sf83.ofLe (b ++ [1]) = Sf83.ofLe b + 256 ^ b.length := by
  rw [M.ofLe_append]
  show _ + _ * (1 + 256 * 0) = _
  omega
theorem cut_part (b : List UInt8) (i n : Nat) : cutV (bv b) (some (0 + (i : Nat) * (n : Nat))) (some (0 + (i : Nat) * (n : Nat) + (n : Nat))) = bv ((b.drop (n * i)).take n) := by
  have e : (0 : Int) + (i : Nat) * (n : Nat) = ((n * i : Nat) : Int) := by rw [Int.zero_add, Int.natCast_mul, Int.mul_comm]
  rw [e, show ((n * i : Nat) : Int) + (n : Nat) = ((n * i + n : Nat) : Int) by rw [Int.natCast_add], cut_nn, bv_drop, bv_take, show n * i + n - n * i = n by omega]
theorem ok_tag {f : Addr} {fd : FuncData} (F : Fun K "tag" "tag" st_tag f fd) (G : Glb mg) (F_number_of : Fn P w K mg base "number_of" 1 ["row"] (spNum K)) (F_bytes_of : Fn P w K mg base "bytes_of" 1 ["number", "size"] spBytes) : FnOk P w K mg base CX0 2 f fd ["key", "row"] (spTag K) := by
  refine F.ok sc_tag (fun vs H Q E h => ?_) (fun cdv A outer s H vs Q E hr h => ?_)
  · obtain ⟨a, b, k, c, rfl, _⟩ := h
    rfl
  · obtain ⟨a, b, k, c, rfl, ha, hb, hk, hcl, r⟩ := h
    refine ⟨_, (pss_cons (ps_set (i := 2) sc_tag.nd rfl (Or.inl rfl) (pe_op op_and (pe_fn F_number_of hr (pa_cons (pe_slice sl_list (pv 0) po_none (po_some pe_int)) pa_nil)) (pe_gint G.keptR))) (pss_cons (ps_set (i := 3) sc_tag.nd rfl (Or.inl rfl) pe_int) (pss_cons (ps_for PassesOwn.never rfl (pi_range3 rfl G.range (pa_cons pe_int (pa_cons (pe_callB call_len_seq rfl G.len boot_len (pa_cons (pv 1) pa_nil)) (pa_cons pe_int pa_nil)))) (pg_name (i := 4) sc_tag.nd rfl (Or.inl rfl)) (pss_cons (ps_set (i := 5) sc_tag.nd rfl (Or.inl rfl) (pe_slice sl_list (pv 1) (po_some (pv 4)) (po_some (pe_op op_add (pv 4) pe_int)))) (pss_one (ps_set (i := 3) sc_tag.nd rfl (Or.inl rfl) (pe_op op_mod (pe_op op_mulB (pe_op op_add (pv 3) (pe_fn F_number_of hr (pa_cons (pe_op op_cat (pv 5) (pe_lst (pa_cons pe_int pa_nil))) pa_nil))) (pv 2)) (pe_gint G.prime)))))) (pss_one (ps_ret (pe_fn F_bytes_of hr (pa_cons (pe_op op_add (pv 3) (pe_fn F_number_of hr (pa_cons (pe_slice sl_list (pv 0) (po_some pe_int) po_none) pa_nil))) (pa_cons (pe_gint G.tsize) pa_nil)))))))), ?_⟩
    refine ⟨_, rfl, _, rfl, a, _, rfl, ha, fun p1 n1 => ?_⟩
    rw [show cutV (bv k) none (some 16) = bv (k.take 16) from (cut_xn (bv k) 16).trans (bv_take k 16)]
    have t1 : Same H (upd H p1 (.lst (bv (k.take 16)))) := (Same.refl H).upd n1
    refine ⟨p1, k.take 16, rfl, SqL.of upd_same, by rw [List.length_take]; omega, fun H2 s2 => ⟨_, _, rfl, rfl, ?_⟩⟩
    have t2 := t1.trans s2
    try dsimp only [L2.start, Z1, Z2, Z3, Z4, Z5, Z6, List.replicate, Z7, Z8, Nat.reduceAdd, Nat.reduceSub, Nat.zero_add]
    rw [clamp_val]
    have hT : Sf83.tagOf k c = Sf83.le 16 (M.sums (Sf83.ofLe (k.take 16) &&& Sf83.CLAMP) c ((c.length + 15) / 16) + Sf83.ofLe (k.drop 16)) := by
      unfold Sf83.tagOf
      rw [M.summed_all]
    have hrl := clamp_lt (Sf83.ofLe (k.take 16))
    generalize Sf83.ofLe (k.take 16) &&& Sf83.CLAMP = R at *
    have hR : RgC 0 ((bv c).length : Int) 16 ((c.length + 15) / 16) := by
      have h := RgC_up (bv c).length 16 (by decide) (by decide) (by rw [bv_len]; omega)
      rw [bv_len] at h ⊢
      exact h
    refine ⟨_, rfl, b, _, rfl, .inl (t2.seq hb), 0, _, 16, _, rfl, hR, ?_⟩
    refine for_rangeC (n := (c.length + 15) / 16) (fun i σ H' => ∃ v4 v5 : Option V, σ = [some (.ref a), some (.ref b), some (.int (R : Nat)), some (.int (M.sums R c i : Nat)), v4, v5] ∧ Same H H') ⟨none, none, rfl, t2⟩ ?_ ?_
    · rintro i σ H' hi ⟨v4, v5, rfl, s3⟩
      refine ⟨_, rfl, _, rfl, _, rfl, _, rfl, _, _, rfl, rfl, _, rfl, b, _, rfl, s3.seq hb, fun p hp => ?_⟩
      try dsimp only [L2.start, Z1, Z2, Z3, Z4, Z5, Z6, List.replicate, Z7, Z8, Nat.reduceAdd, Nat.reduceSub, Nat.zero_add]
      rw [show cutV (bv c) (some (0 + (i : Nat) * 16)) (some (0 + (i : Nat) * 16 + 16)) = bv ((c.drop (16 * i)).take 16) from cut_part c i 16]
      generalize hpt : (c.drop (16 * i)).take 16 = part
      have hpl : part.length ≤ 16 := by rw [← hpt, List.length_take]; omega
      have t4 := s3.upd (o := .lst (bv part)) (s3.free hp)
      try dsimp only [L2.start, Z1, Z2, Z3, Z4, Z5, Z6, List.replicate, Z7, Z8, Nat.reduceAdd, Nat.reduceSub, Nat.zero_add]
      refine ⟨_, rfl, _, rfl, (by show 1 ≤ sizeLine; rw [sizeLine_eq]; decide), fun l hl => ?_⟩
      have t5 := t4.upd (o := .lst [V.int 1]) (t4.free hl)
      refine ⟨p, l, _, _, rfl, rfl, (upd_ne (ne_of_none upd_same hl)).trans upd_same, upd_same, by rw [bv_len, sizeLine_eq]; show part.length + 1 ≤ _; omega, fun q hq => ?_⟩
      have t6 := t5.upd (o := .lst (bv part ++ [V.int 1])) (t5.free hq)
      refine ⟨q, part ++ [1], rfl, SqL.of (by rw [upd_same, bv_app]; rfl), by rw [List.length_append]; show part.length + 1 ≤ 64; omega, fun H7 s7 => ?_⟩
      have hs := sums_lt R c i
      have hn : Sf83.ofLe (part ++ [1]) < 2 ^ 136 := by
        have h1 := M.ofLe_lt (part ++ [1])
        have h2 : (part ++ [1]).length ≤ 17 := by rw [List.length_append]; show part.length + 1 ≤ 17; omega
        exact Nat.lt_of_lt_of_le h1 (Nat.le_trans (Nat.pow_le_pow_right (by decide) h2) (by decide))
      refine ⟨_, _, rfl, rfl, _, rfl, _, _, rfl, rfl, ⟨small_nat (by omega), small_nat (by omega)⟩, _, _, rfl, rfl, (by show (0 : Int) < 1361129467683753853853498429727072845819; decide), some (.int (0 + (i : Nat) * 16)), some (.ref p), ?_, t6.trans s7⟩
      try dsimp only [L2.start, Z1, Z2, Z3, Z4, Z5, Z6, List.replicate, Z7, Z8, Nat.reduceAdd, Nat.reduceSub, Nat.zero_add]
      have es : M.sums R c (i + 1) = (M.sums R c i + Sf83.ofLe (part ++ [1])) * R % Sf83.Q := by
        show (M.sums R c i + Sf83.ofLe ((c.drop (16 * i)).take 16) + 256 ^ ((c.drop (16 * i)).take 16).length) * R % Sf83.Q = _
        rw [hpt, snoc_one, Nat.add_assoc]
      rw [es, Int.natCast_emod, Int.natCast_mul, Int.natCast_add]
      rfl
    · rintro σ H' ⟨v4, v5, rfl, s3⟩
      refine ⟨_, rfl, _, rfl, _, rfl, a, _, rfl, s3.seq ha, fun p hp => ?_⟩
      rw [show cutV (bv k) (some 16) none = bv (k.drop 16) from (cut_nx (bv k) 16).trans (bv_drop k 16)]
      have t4 := s3.upd (o := .lst (bv (k.drop 16))) (s3.free hp)
      refine ⟨p, k.drop 16, rfl, SqL.of upd_same, by rw [List.length_drop]; omega, fun H5 s5 => ⟨_, _, rfl, rfl, ?_⟩⟩
      refine ⟨M.sums R c ((c.length + 15) / 16) + Sf83.ofLe (k.drop 16), 16, ?_, by decide, ?_⟩
      · show [V.int (((M.sums R c ((c.length + 15) / 16) : Nat) : Int) + ((Sf83.ofLe (k.drop 16) : Nat) : Int)), V.int 16] = _
        rw [← Int.natCast_add]
        rfl
      · rw [← hT]
        exact r.of (t4.trans s5)
abbrev st_padded : Stmt := top 40
theorem sc_padded : FnScope ["row"] ["row"] (defScope st_padded) := ⟨rfl, rfl, rfl, by decide +kernel, rfl, by decide +kernel, by decide +kernel⟩
theorem bd_padded : BindsOf "padded" "padded" st_padded ["row"] := fun _ _ _ _ _ _ us hl => match us, hl with | [_], _ => rfl
def spPadded : Sp := fun vs H Q _ => ∃ (a : Addr) (c : List UInt8), vs = [.ref a] ∧ H a = some (.lst (bv c)) ∧ c.length ≤ 1000000 ∧ RetL H (bv (Sf83.padded c)) Q
theorem zeros_flat (n : Nat) : (List.replicate n [V.int 0]).flatten = bv (List.replicate n 0) := by
  induction n with
  | zero => rfl
  | succ n ih =>
    rw [List.replicate_succ, List.flatten_cons, ih, List.replicate_succ]
    rfl
theorem ok_padded {f : Addr} {fd : FuncData} (F : Fun K "padded" "padded" st_padded f fd) (G : Glb mg) : FnOk P w K mg base CX0 1 f fd ["row"] spPadded := by
  refine F.ok sc_padded (fun vs H Q E h => ?_) (fun cdv A outer s H vs Q E hr h => ?_)
  · obtain ⟨a, c, rfl, _⟩ := h
    rfl
  · obtain ⟨a, c, rfl, ha, hcl, r⟩ := h
    refine ⟨_, (pss_one (ps_ret (pe_op op_cat (pv 0) (pe_op op_rep (pe_lst (pa_cons pe_int pa_nil)) (pe_op op_mod (pe_un un_neg (pe_callB call_len_seq rfl G.len boot_len (pa_cons (pv 0) pa_nil))) pe_int))))), ?_⟩
    refine ⟨_, rfl, (by show 1 ≤ sizeLine; rw [sizeLine_eq]; decide), fun l hl => ?_⟩
    have t1 := (Same.refl H).upd (o := .lst [V.int 0]) hl
    have ek : (-((bv c).length : Int)) % 16 = (((16 - c.length % 16) % 16 : Nat) : Int) := by
      rw [bv_len]
      omega
    refine ⟨_, rfl, a, _, rfl, .inl (SqL.of (t1 _ _ ha)), _, rfl, _, _, rfl, rfl, (by show (0 : Int) < 16; decide), l, _, _, rfl, rfl, upd_same, ?_, ?_, ?_, fun p hp => ?_⟩
    · show -(2 ^ 63) ≤ (-((bv c).length : Int)) % 16
      omega
    · show (-((bv c).length : Int)) % 16 < 2 ^ 63
      omega
    · show 1 * ((-((bv c).length : Int)) % 16).toNat ≤ sizeLine
      rw [sizeLine_eq]
      omega
    · try dsimp only [L2.start, Z1, Z2, Z3, Z4, Z5, Z6, List.replicate, Z7, Z8, Nat.reduceAdd, Nat.reduceSub, Nat.zero_add]
      rw [ek, Int.toNat_natCast, zeros_flat]
      have t2 := t1.upd (o := .lst (bv (List.replicate ((16 - c.length % 16) % 16) 0))) (t1.free hp)
      refine ⟨a, p, _, _, rfl, rfl, t2 _ _ ha, upd_same, by rw [bv_len, bv_len, List.length_replicate, sizeLine_eq]; omega, fun q hq => ?_⟩
      rw [← bv_app]
      exact r.new t2 hq
end
def dat (b : List UInt8) : List PyData := b.map fun (c : UInt8) => PyData.int (c.toNat : Int)
theorem dp_all (K : PySem.W.Frag) (H : Hp) : ∀ b : List UInt8, DpAll K H (bv b) (dat b)
  | [] => .nil
  | c :: b => .cons (.int _) (dp_all K H b)
theorem dp_list {K : PySem.W.Frag} {H : Hp} {a : Addr} {b : List UInt8} (h : SqL K H a (bv b)) : Dp K H (.ref a) (.list (dat b)) := .lst h (dp_all K H b)
theorem dat_can : ∀ b : List UInt8, PyData.canLayAll0 (dat b) = true
  | [] => rfl
  | c :: b => by
    show (PyData.canLay0 (.int _) && PyData.canLayAll0 (dat b)) = true
    rw [dat_can b]
    rfl
theorem dat_depth : ∀ b : List UInt8, PyData.depthAll (dat b) = 0
  | [] => rfl
  | c :: b => by
    show max (PyData.depth (.int _)) (PyData.depthAll (dat b)) = 0
    rw [dat_depth b]
    rfl
theorem dat_shaped (b : List UInt8) : SeqAt.shaped (.list (dat b)) = true := by
  unfold SeqAt.shaped
  rw [Bool.and_eq_true]
  refine ⟨dat_can b, ?_⟩
  have e : PyData.depth (.list (dat b)) = 1 := by
    show PyData.depthAll (dat b) + 1 = 1
    rw [dat_depth b]
  rw [e]
  rfl
theorem dat_eqv : ∀ a b : List UInt8, PyData.eqvAll (dat a) (dat b) = decide (a = b)
  | [], [] => rfl
  | [], c :: b => rfl
  | c :: a, [] => rfl
  | c :: a, d :: b => by
    show (((c.toNat : Int) == (d.toNat : Int)) && PyData.eqvAll (dat a) (dat b)) = _
    rw [dat_eqv a b, Bool.eq_iff_iff, Bool.and_eq_true, decide_eq_true_eq, decide_eq_true_eq, beq_iff_eq, List.cons.injEq]
    constructor
    · rintro ⟨h1, h2⟩
      exact ⟨UInt8.toNat_inj.mp (by omega), h2⟩
    · rintro ⟨h1, h2⟩
      exact ⟨by rw [h1], h2⟩
section
variable {P : Program} {w : World} {K : PySem.W.Frag} {mg : Str → Option Value} {base : Heap}
abbrev st_tag_of_sealed : Stmt := top 41
theorem sc_tag_of_sealed : FnScope ["key", "nonce", "along", "hidden", "sizes"] ["key", "nonce", "along", "hidden"] (defScope st_tag_of_sealed) := ⟨rfl, rfl, rfl, by decide +kernel, rfl, by decide +kernel, by decide +kernel⟩
theorem bd_tag_of_sealed : BindsOf "tag_of_sealed" "tag_of_sealed" st_tag_of_sealed ["key", "nonce", "along", "hidden"] := fun _ _ _ _ _ _ us hl => match us, hl with | [_, _, _, _], _ => rfl
def spTagS (K : PySem.W.Frag) : Sp := fun vs H Q _ => ∃ (a b d e : Addr) (k c al h : List UInt8), vs = [.ref a, .ref b, .ref d, .ref e] ∧ SqL K H a (bv k) ∧ SqL K H b (bv c) ∧ H d = some (.lst (bv al)) ∧ H e = some (.lst (bv h)) ∧ k.length = 32 ∧ c.length = 12 ∧ al.length ≤ 200000 ∧ h.length ≤ 200000 ∧ RetL H (bv (Sf83.tag k c al h)) Q
theorem padded_len (b : List UInt8) : (Sf83.padded b).length ≤ b.length + 16 := by
  unfold Sf83.padded
  rw [List.length_append, List.length_replicate]
  omega
theorem ok_tagS {f : Addr} {fd : FuncData} (F : Fun K "tag_of_sealed" "tag_of_sealed" st_tag_of_sealed f fd) (G : Glb mg) (F_bytes_of : Fn P w K mg base "bytes_of" 1 ["number", "size"] spBytes) (F_block : Fn P w K mg base "block" 4 ["key", "number", "nonce"] (spBlock K))
    (F_padded : Fn P w K mg base "padded" 1 ["row"] spPadded) (F_tag : Fn P w K mg base "tag" 2 ["key", "row"] (spTag K)) : FnOk P w K mg base CX0 5 f fd ["key", "nonce", "along", "hidden"] (spTagS K) := by
  refine F.ok sc_tag_of_sealed (fun vs H Q E h => ?_) (fun cdv A outer s H vs Q E hr h => ?_)
  · obtain ⟨a, b, d, e, k, c, al, h, rfl, _⟩ := h
    rfl
  · obtain ⟨a, b, d, e, k, c, al, h, rfl, ha, hb, hd, he, hk, hcl, hal, hhl, r⟩ := h
    refine ⟨_, (pss_cons (ps_set (i := 4) sc_tag_of_sealed.nd rfl (Or.inl rfl) (pe_op op_cat (pe_fn F_bytes_of hr (pa_cons (pe_callB call_len_seq rfl G.len boot_len (pa_cons (pv 2) pa_nil)) (pa_cons pe_int pa_nil))) (pe_fn F_bytes_of hr (pa_cons (pe_callB call_len_seq rfl G.len boot_len (pa_cons (pv 3) pa_nil)) (pa_cons pe_int pa_nil))))) (pss_one (ps_ret (pe_fn F_tag hr (pa_cons (pe_slice sl_list (pe_fn F_block hr (pa_cons (pv 0) (pa_cons pe_int (pa_cons (pv 1) pa_nil)))) po_none (po_some pe_int)) (pa_cons (pe_op op_cat (pe_op op_cat (pe_fn F_padded hr (pa_cons (pv 2) pa_nil)) (pe_fn F_padded hr (pa_cons (pv 3) pa_nil))) (pv 4)) pa_nil)))))), ?_⟩
    refine ⟨_, rfl, d, _, rfl, .inl (SqL.of hd), (bv al).length, 8, rfl, by decide, fun H1 p1 s1 n1 e1 => ?_⟩
    refine ⟨_, rfl, e, _, rfl, .inl (SqL.of (s1 _ _ he)), (bv h).length, 8, rfl, by decide, fun H2 p2 s2 n2 e2 => ?_⟩
    refine ⟨p1, p2, _, _, rfl, rfl, s2 _ _ e1, e2, by rw [bv_len (Sf83.le _ _), bv_len (Sf83.le _ _), M.le_len, M.le_len, sizeLine_eq]; decide, fun p3 n3 => ?_⟩
    rw [← bv_app, bv_len al, bv_len h]
    have t2 := s1.trans s2
    have t3 := t2.upd (o := .lst (bv (Sf83.le 8 al.length ++ Sf83.le 8 h.length))) (t2.free n3)
    try dsimp only [L2.start, Z1, Z2, Z3, Z4, Z5, Z6, List.replicate, Z7, Z8, Nat.reduceAdd, Nat.reduceSub, Nat.zero_add]
    refine ⟨_, rfl, _, rfl, a, b, k, c, 0, rfl, t3.seq ha, t3.seq hb, hk, hcl, fun H4 p4 s4 n4 e4 => ?_⟩
    have t4 := t3.trans s4
    refine ⟨_, rfl, p4, _, rfl, SqL.of e4, fun p5 n5 => ?_⟩
    rw [show cutV (bv (Sf83.block k 0 c)) none (some 32) = bv ((Sf83.block k 0 c).take 32) from (cut_xn _ 32).trans (bv_take _ 32)]
    have t5 := t4.upd (o := .lst (bv ((Sf83.block k 0 c).take 32))) (t4.free n5)
    refine ⟨_, rfl, d, al, rfl, t5 _ _ hd, by omega, fun H6 p6 s6 n6 e6 => ?_⟩
    have t6 := t5.trans s6
    refine ⟨_, rfl, e, h, rfl, t6 _ _ he, by omega, fun H7 p7 s7 n7 e7 => ?_⟩
    have t7 := t6.trans s7
    have l1 := padded_len al
    have l2 := padded_len h
    refine ⟨p6, p7, _, _, rfl, rfl, s7 _ _ e6, e7, by rw [bv_len, bv_len, sizeLine_eq]; omega, fun p8 n8 => ?_⟩
    rw [← bv_app]
    have t8 := t7.upd (o := .lst (bv (Sf83.padded al ++ Sf83.padded h))) (t7.free n8)
    have q3 : H7 p3 = some (.lst (bv (Sf83.le 8 al.length ++ Sf83.le 8 h.length))) := by
      refine s7 _ _ (s6 _ _ ?_)
      have q4 := s4 _ _ (upd_same (H := H2) (a := p3) (o := .lst (bv (Sf83.le 8 al.length ++ Sf83.le 8 h.length))))
      exact (upd_ne (ne_of_none q4 n5)).trans q4
    refine ⟨_, rfl, p8, p3, _, _, rfl, rfl, upd_same, (upd_ne (ne_of_none q3 n8)).trans q3, by rw [bv_len, bv_len, List.length_append, List.length_append, M.le_len, M.le_len, sizeLine_eq]; omega, fun p9 n9 => ?_⟩
    rw [← bv_app]
    have t9 := t8.upd (o := .lst (bv (Sf83.padded al ++ Sf83.padded h ++ (Sf83.le 8 al.length ++ Sf83.le 8 h.length)))) (t8.free n9)
    have q5 : H7 p5 = some (.lst (bv ((Sf83.block k 0 c).take 32))) := s7 _ _ (s6 _ _ upd_same)
    have q5' := (upd_ne (o := .lst (bv (Sf83.padded al ++ Sf83.padded h))) (ne_of_none q5 n8)).trans q5
    refine ⟨p5, p9, _, _, rfl, SqL.of ((upd_ne (ne_of_none q5' n9)).trans q5'), SqL.of upd_same, by rw [List.length_take, M.block_len]; decide, by rw [List.length_append, List.length_append, List.length_append, M.le_len, M.le_len]; omega, ?_⟩
    rw [List.append_assoc] at t9 ⊢
    exact r.of t9
abbrev st_crossed : Stmt := top 42
theorem sc_crossed : FnScope ["key", "nonce", "row", "result", "place", "stream", "part", "byte", "mask"] ["key", "nonce", "row"] (defScope st_crossed) := ⟨rfl, rfl, rfl, by decide +kernel, rfl, by decide +kernel, by decide +kernel⟩
theorem bd_crossed : BindsOf "crossed" "crossed" st_crossed ["key", "nonce", "row"] := fun _ _ _ _ _ _ us hl => match us, hl with | [_, _, _], _ => rfl
def spCross (K : PySem.W.Frag) : Sp := fun vs H Q _ => ∃ (a b d : Addr) (k c h : List UInt8), vs = [.ref a, .ref b, .ref d] ∧ SqL K H a (bv k) ∧ SqL K H b (bv c) ∧ SqL K H d (bv h) ∧ k.length = 32 ∧ c.length = 12 ∧ h.length ≤ 200000 ∧ RetL H (bv (Sf83.turnedBy k c h)) Q
theorem xored_at {a b : List UInt8} {i x y z : Nat} (hx : (Sf83.nums a)[i]? = some x) (hy : (Sf83.nums b)[i]? = some y) (hz : (Sf83.nums (Sf83.xored a b))[i]? = some z) : z = x ^^^ y := by
  unfold Sf83.nums Sf83.xored at *
  rw [List.getElem?_map, Option.map_eq_some_iff] at hx hy
  obtain ⟨p, hp, rfl⟩ := hx
  obtain ⟨q, hq, rfl⟩ := hy
  rw [List.getElem?_map, List.getElem?_map, List.getElem?_zip_eq_some (z := (p, q)) |>.mpr ⟨hp, hq⟩] at hz
  have hz := Option.some.inj hz
  rw [← hz]
  exact UInt8.toNat_xor _ _
theorem range_snoc (k c b : List UInt8) (i : Nat) : ((List.range (i + 1)).map (M.parts k c b)).flatten = ((List.range i).map (M.parts k c b)).flatten ++ M.parts k c b i := by
  rw [List.range_succ, List.map_append, List.flatten_append]
  show _ ++ (_ ++ []) = _
  rw [List.append_nil]
theorem parts_len (k c b : List UInt8) : ∀ i, (((List.range i).map (M.parts k c b)).flatten).length ≤ 64 * i
  | 0 => Nat.zero_le _
  | i + 1 => by
    rw [range_snoc, List.length_append]
    have h1 := parts_len k c b i
    have h2 : (M.parts k c b i).length ≤ 64 := by
      unfold M.parts
      rw [M.xored_len, M.block_len]
      omega
    omega
theorem ok_cross {f : Addr} {fd : FuncData} (F : Fun K "crossed" "crossed" st_crossed f fd) (G : Glb mg) (F_block : Fn P w K mg base "block" 4 ["key", "number", "nonce"] (spBlock K)) : FnOk P w K mg base CX0 5 f fd ["key", "nonce", "row"] (spCross K) := by
  refine F.ok sc_crossed (fun vs H Q E h => ?_) (fun cdv A outer s H vs Q E hr h => ?_)
  · obtain ⟨a, b, d, k, c, h, rfl, _⟩ := h
    rfl
  · obtain ⟨a, b, d, k, c, h, rfl, ha, hb, hd, hk, hcl, hhl, r⟩ := h
    refine ⟨_, (pss_cons (ps_set (i := 3) sc_crossed.nd rfl (Or.inl rfl) (pe_lst pa_nil)) (pss_cons (ps_for PassesOwn.never rfl (pi_range3 rfl G.range (pa_cons pe_int (pa_cons (pe_callB call_len_seq rfl G.len boot_len (pa_cons (pv 2) pa_nil)) (pa_cons (pe_gint G.bsize) pa_nil)))) (pg_name (i := 4) sc_crossed.nd rfl (Or.inl rfl)) (pss_cons (ps_set (i := 5) sc_crossed.nd rfl (Or.inl rfl) (pe_fn F_block hr (pa_cons (pv 0) (pa_cons (pe_op op_add (pe_op op_fdiv (pv 4) (pe_gint G.bsize)) pe_int) (pa_cons (pv 1) pa_nil))))) (pss_cons (ps_set (i := 6) sc_crossed.nd rfl (Or.inl rfl) (pe_slice sl_list (pv 2) (po_some (pv 4)) (po_some (pe_op op_add (pv 4) (pe_gint G.bsize))))) (pss_one (ps_expr (pe_bm PySem.F.plainAttrs_list PySem.F.slot_list_extend PySem.F.type_list_extend mt_extend (pv 3) (pa_cons (pe_lc (own := [("byte", 7), ("mask", 8)]) rfl sc_crossed.nd (pi_zip rfl G.zip (pa_cons (pv 6) (pa_cons (pv 5) pa_nil))) (blkOk_by rfl) (fun _ _ _ _ _ => pg_tupK (K := K) (n := 2) rfl rfl (pgs_cons (pg_name (i := 7) sc_crossed.nd rfl (Or.inl rfl)) (pgs_cons (pg_name (i := 8) sc_crossed.nd rfl (Or.inl rfl)) pgs_nil))) (fun _ _ _ _ _ => pts_nil) (fun _ _ _ _ _ => (pe_op op_xor (pv 7) (pv 8)))) pa_nil))))))) (pss_one (ps_ret (pv 3))))), ?_⟩
    refine ⟨Nat.zero_le _, fun q hq => ?_⟩
    have t0 := (Same.refl H).upd (o := .lst []) hq
    try dsimp only [L2.start, Z1, Z2, Z3, Z4, Z5, Z6, List.replicate, Z7, Z8, Nat.reduceAdd, Nat.reduceSub, Nat.zero_add]
    have hR : RgC 0 ((bv h).length : Int) 64 ((h.length + 63) / 64) := by
      have z := RgC_up (bv h).length 64 (by decide) (by decide) (by rw [bv_len]; omega)
      rw [bv_len] at z ⊢
      exact z
    refine ⟨_, rfl, d, _, rfl, .inl (t0.seq hd), 0, _, 64, _, rfl, hR, ?_⟩
    refine for_rangeC (n := (h.length + 63) / 64) (fun i σ H' => ∃ v4 v5 v6 : Option V, σ = [some (.ref a), some (.ref b), some (.ref d), some (.ref q), v4, v5, v6, none, none] ∧ Same H H' ∧ H' q = some (.lst (bv (((List.range i).map (M.parts k c h)).flatten)))) ⟨none, none, none, rfl, t0, upd_same⟩ ?_ ?_
    · rintro i σ H' hi ⟨v4, v5, v6, rfl, s3, hq'⟩
      refine ⟨_, rfl, _, rfl, _, _, rfl, rfl, ⟨by decide, by decide⟩, _, _, rfl, rfl, _, rfl, a, b, k, c, i + 1, ?_, s3.seq ha, s3.seq hb, hk, hcl, fun H4 p4 s4 n4 e4 => ?_⟩
      · show [V.ref a, V.int ((0 + (i : Nat) * 64) / 64 + 1), V.ref b] = _
        rw [show ((0 : Int) + (i : Nat) * 64) / 64 + 1 = ((i + 1 : Nat) : Int) by omega]
      have t4 := s3.trans s4
      try dsimp only [L2.start, Z1, Z2, Z3, Z4, Z5, Z6, List.replicate, Z7, Z8, Nat.reduceAdd, Nat.reduceSub, Nat.zero_add]
      refine ⟨_, rfl, _, rfl, _, rfl, _, rfl, _, _, rfl, rfl, _, rfl, d, _, rfl, t4.seq hd, fun p5 n5 => ?_⟩
      try dsimp only [L2.start, Z1, Z2, Z3, Z4, Z5, Z6, List.replicate, Z7, Z8, Nat.reduceAdd, Nat.reduceSub, Nat.zero_add]
      rw [show cutV (bv h) (some (0 + (i : Nat) * 64)) (some (0 + (i : Nat) * 64 + 64)) = bv ((h.drop (64 * i)).take 64) from cut_part h i 64]
      have t5 := t4.upd (o := .lst (bv ((h.drop (64 * i)).take 64))) (t4.free n5)
      have hq4 := s4 _ _ hq'
      have hq5 := (upd_ne (o := .lst (bv ((h.drop (64 * i)).take 64))) (ne_of_none hq4 n5)).trans hq4
      have e5 := (upd_ne (o := .lst (bv ((h.drop (64 * i)).take 64))) (ne_of_none e4 n5)).trans e4
      refine ⟨_, rfl, .inl ⟨rfl, _, SqL.of hq5⟩, _, rfl, _, rfl, p5, p4, _, _, rfl, SqL.of upd_same, SqL.of e5, fun D hD => ?_⟩
      refine lc_zip (xs := Sf83.nums ((h.drop (64 * i)).take 64)) (ys := Sf83.nums (Sf83.block k (i + 1) c)) (zs := Sf83.nums (M.parts k c h i)) (SqL.of upd_same) (SqL.of e5) hD ?_ ?_ (fun v w => rfl) ?_ ?_
      · rw [nums_len, nums_len, nums_len]
        exact M.xored_len _ _
      · rw [nums_len]
        unfold M.parts
        rw [M.xored_len, M.block_len]
        omega
      · intro j x y z H6 KK hx hy hz hKK
        refine ⟨_, rfl, _, rfl, _, _, rfl, rfl, ?_⟩
        try dsimp only [L2.start, Z1, Z2, Z3, Z4, Z5, Z6, List.replicate, Z7, Z8, Nat.reduceAdd, Nat.reduceSub, Nat.zero_add]
        rw [xor_val, ← xored_at hx hy hz]
        exact hKK
      · intro H6 s6 e6
        have hl := parts_len k c h i
        refine ⟨q, D, _, _, rfl, rfl, s6 _ _ hq5, e6, ?_, ?_⟩
        · rw [bv_len, nv_len, nums_len, sizeLine_eq]
          have h2 : (M.parts k c h i).length ≤ 64 := by
            unfold M.parts
            rw [M.xored_len, M.block_len]
            omega
          omega
        · refine ⟨_, _, _, rfl, (t5.trans s6).upd hq, ?_⟩
          rw [upd_same, range_snoc, bv_app]
          rfl
    · rintro σ H' ⟨v4, v5, v6, rfl, s3, hq'⟩
      rw [← M.turnedBy_parts k c h (by omega) (by omega)] at hq'
      exact ⟨_, rfl, RetL.go r s3 hq hq'⟩
abbrev st_sealed : Stmt := top 43
theorem sc_sealed : FnScope ["key", "nonce", "along", "row", "hidden"] ["key", "nonce", "along", "row"] (defScope st_sealed) := ⟨rfl, rfl, rfl, by decide +kernel, rfl, by decide +kernel, by decide +kernel⟩
theorem bd_sealed : BindsOf "sealed" "sealed" st_sealed ["key", "nonce", "along", "row"] := fun _ _ _ _ _ _ us hl => match us, hl with | [_, _, _, _], _ => rfl
def spSeal (K : PySem.W.Frag) : Sp := fun vs H Q _ => ∃ (a b d e : Addr) (k c al h : List UInt8), vs = [.ref a, .ref b, .ref d, .ref e] ∧ SqL K H a (bv k) ∧ SqL K H b (bv c) ∧ H d = some (.lst (bv al)) ∧ SqL K H e (bv h) ∧ k.length = 32 ∧ c.length = 12 ∧ al.length ≤ 200000 ∧ h.length ≤ 200000 ∧ RetL H (bv (Sf83.sealOf k c al h)) Q
theorem ok_seal {f : Addr} {fd : FuncData} (F : Fun K "sealed" "sealed" st_sealed f fd) (G : Glb mg) (F_crossed : Fn P w K mg base "crossed" 5 ["key", "nonce", "row"] (spCross K)) (F_tag_of_sealed : Fn P w K mg base "tag_of_sealed" 5 ["key", "nonce", "along", "hidden"] (spTagS K)) : FnOk P w K mg base CX0 6 f fd ["key", "nonce", "along", "row"] (spSeal K) := by
  refine F.ok sc_sealed (fun vs H Q E h => ?_) (fun cdv A outer s H vs Q E hr h => ?_)
  · obtain ⟨a, b, d, e, k, c, al, h, rfl, _⟩ := h
    rfl
  · obtain ⟨a, b, d, e, k, c, al, h, rfl, ha, hb, hd, he, hk, hcl, hal, hhl, r⟩ := h
    refine ⟨_, (pss_cons (ps_set (i := 4) sc_sealed.nd rfl (Or.inl rfl) (pe_fn F_crossed hr (pa_cons (pv 0) (pa_cons (pv 1) (pa_cons (pv 3) pa_nil))))) (pss_one (ps_ret (pe_op op_cat (pv 4) (pe_fn F_tag_of_sealed hr (pa_cons (pv 0) (pa_cons (pv 1) (pa_cons (pv 2) (pa_cons (pv 4) pa_nil))))))))), ?_⟩
    refine ⟨_, rfl, _, rfl, _, rfl, a, b, e, k, c, h, rfl, ha, hb, he, hk, hcl, hhl, fun H1 p1 s1 n1 e1 => ?_⟩
    have hl := M.turnedBy_len k c h
    refine ⟨_, rfl, _, rfl, _, rfl, _, rfl, _, rfl, a, b, d, p1, k, c, al, _, rfl, s1.seq ha, s1.seq hb, s1 _ _ hd, e1, hk, hcl, hal, by omega, fun H2 p2 s2 n2 e2 => ?_⟩
    refine ⟨p1, p2, _, _, rfl, rfl, s2 _ _ e1, e2, by rw [bv_len, bv_len, M.tag_len, hl, sizeLine_eq]; omega, fun p3 n3 => ?_⟩
    rw [← bv_app]
    exact r.new (s1.trans s2) n3
abbrev st_opened : Stmt := top 44
theorem sc_opened : FnScope ["key", "nonce", "along", "row", "hidden"] ["key", "nonce", "along", "row"] (defScope st_opened) := ⟨rfl, rfl, rfl, by decide +kernel, rfl, by decide +kernel, by decide +kernel⟩
theorem bd_opened : BindsOf "opened" "opened" st_opened ["key", "nonce", "along", "row"] := fun _ _ _ _ _ _ us hl => match us, hl with | [_, _, _, _], _ => rfl
def spOpen (K : PySem.W.Frag) : Sp := fun vs H Q _ => ∃ (a b d e : Addr) (k c al h : List UInt8), vs = [.ref a, .ref b, .ref d, .ref e] ∧ SqL K H a (bv k) ∧ SqL K H b (bv c) ∧ H d = some (.lst (bv al)) ∧ SqL K H e (bv h) ∧ k.length = 32 ∧ c.length = 12 ∧ al.length ≤ 200000 ∧ h.length ≤ 200000 ∧
  (Sf83.opened k c al h = none → ∀ H', Same H H' → Q .non H') ∧ (∀ x, Sf83.opened k c al h = some x → RetL H (bv x) Q)
theorem ok_open {f : Addr} {fd : FuncData} (F : Fun K "opened" "opened" st_opened f fd) (G : Glb mg) (F_crossed : Fn P w K mg base "crossed" 5 ["key", "nonce", "row"] (spCross K)) (F_tag_of_sealed : Fn P w K mg base "tag_of_sealed" 5 ["key", "nonce", "along", "hidden"] (spTagS K)) : FnOk P w K mg base CX0 6 f fd ["key", "nonce", "along", "row"] (spOpen K) := by
  refine F.ok sc_opened (fun vs H Q E h => ?_) (fun cdv A outer s H vs Q E hr h => ?_)
  · obtain ⟨a, b, d, e, k, c, al, h, rfl, _⟩ := h
    rfl
  · obtain ⟨a, b, d, e, k, c, al, h, rfl, ha, hb, hd, he, hk, hcl, hal, hhl, r1, r2⟩ := h
    refine ⟨_, (pss_cons (ps_if (pt_cmpR op_lt (pe_callB call_len_seq rfl G.len boot_len (pa_cons (pv 3) pa_nil)) (pe_gint G.tsize) (nomark _)) (pss_one (ps_ret pe_non)) pss_nil) (pss_cons (ps_set (i := 4) sc_opened.nd rfl (Or.inl rfl) (pe_slice sl_list (pv 3) po_none (po_some (pe_un un_neg (pe_gint G.tsize))))) (pss_cons (ps_if (pt_cmpR (op_neD hr.units) (pe_fn F_tag_of_sealed hr (pa_cons (pv 0) (pa_cons (pv 1) (pa_cons (pv 2) (pa_cons (pv 4) pa_nil))))) (pe_slice sl_list (pv 3) (po_some (pe_un un_neg (pe_gint G.tsize))) po_none) (nomark _)) (pss_one (ps_ret pe_non)) pss_nil) (pss_one (ps_ret (pe_fn F_crossed hr (pa_cons (pv 0) (pa_cons (pv 1) (pa_cons (pv 4) pa_nil))))))))), ?_⟩
    refine ⟨_, rfl, e, _, rfl, .inl he, _, _, rfl, rfl, _, rfl, ite2 (fun z => ?_) (fun z => ?_)⟩
    · have hl : h.length < 16 := by
        have z := of_decide_eq_true z
        rw [bv_len] at z
        omega
      refine r1 ?_ H (Same.refl H)
      unfold Sf83.opened
      rw [if_pos hl]
    · have hl : ¬ h.length < 16 := fun y => z (decide_eq_true (by rw [bv_len]; omega))
      have hl16 : 16 ≤ (bv h).length := by rw [bv_len]; omega
      have c1 : cutV (bv h) none (some (-16)) = bv (h.take (h.length - 16)) := (cut_xm (bv h) 16 (by decide) hl16).trans (by rw [bv_take, bv_len])
      have c2 : cutV (bv h) (some (-16)) none = bv (h.drop (h.length - 16)) := (cut_mx (bv h) 16 (by decide) hl16).trans (by rw [bv_drop, bv_len])
      have op : Sf83.opened k c al h = if Sf83.tag k c al (h.take (h.length - 16)) = h.drop (h.length - 16) then some (Sf83.turnedBy k c (h.take (h.length - 16))) else none := by
        unfold Sf83.opened
        rw [if_neg hl]
      refine ⟨_, rfl, _, rfl, _, rfl, e, _, rfl, he, fun p1 n1 => ?_⟩
      try dsimp only [L2.start, Z1, Z2, Z3, Z4, Z5, Z6, List.replicate, Z7, Z8, Nat.reduceAdd, Nat.reduceSub, Nat.zero_add]
      rw [c1]
      have t1 := (Same.refl H).upd (o := .lst (bv (h.take (h.length - 16)))) n1
      have hl2 : (h.take (h.length - 16)).length ≤ 200000 := by rw [List.length_take]; omega
      refine ⟨_, rfl, _, rfl, _, rfl, _, rfl, a, b, d, p1, k, c, al, _, rfl, t1.seq ha, t1.seq hb, t1 _ _ hd, upd_same, hk, hcl, hal, hl2, fun H2 p2 s2 n2 e2 => ?_⟩
      have t2 := t1.trans s2
      refine ⟨_, rfl, _, rfl, _, rfl, e, _, rfl, t2.seq he, fun p3 n3 => ?_⟩
      try dsimp only [L2.start, Z1, Z2, Z3, Z4, Z5, Z6, List.replicate, Z7, Z8, Nat.reduceAdd, Nat.reduceSub, Nat.zero_add]
      rw [c2]
      have t3 := t2.upd (o := .lst (bv (h.drop (h.length - 16)))) (t2.free n3)
      refine ⟨_, _, dp_list (SqL.of ((upd_ne (ne_of_none e2 n3)).trans e2)), dp_list (SqL.of upd_same), dat_shaped _, dat_shaped _, _, rfl, ?_⟩
      show if (!PyData.eqvAll (dat (Sf83.tag k c al (h.take (h.length - 16)))) (dat (h.drop (h.length - 16)))) = true then _ else _
      rw [dat_eqv]
      by_cases ht : Sf83.tag k c al (h.take (h.length - 16)) = h.drop (h.length - 16)
      · rw [if_neg (by rw [decide_eq_true ht]; decide)]
        rw [if_pos ht] at op
        have q1 : upd H2 p3 (.lst (bv (h.drop (h.length - 16)))) p1 = some (.lst (bv (h.take (h.length - 16)))) := by
          have q := s2 _ _ (upd_same (H := H) (a := p1) (o := .lst (bv (h.take (h.length - 16)))))
          exact (upd_ne (ne_of_none q n3)).trans q
        refine ⟨_, rfl, _, rfl, _, rfl, a, b, p1, k, c, _, rfl, t3.seq ha, t3.seq hb, SqL.of q1, hk, hcl, hl2, ?_⟩
        exact (r2 _ op).of t3
      · rw [if_pos (by rw [decide_eq_false ht]; rfl)]
        rw [if_neg ht] at op
        exact r1 op _ t3
end
structure Cs where
  E : Addr
  W : Addr
  G : Addr
  R : Addr
  B : Addr
structure Txt (K : PySem.W.Frag) (mg : Str → Option Value) (C : Cs) : Prop where
  exc : Exc K mg "Broken" C.B
  cE : Cls K C.E
  nE_phase : NoAttr K C.E "phase"
  nE_leads : NoAttr K C.E "leads"
  nE_every : NoAttr K C.E "every"
  nE_greeting : NoAttr K C.E "greeting"
  nE_outgoing : NoAttr K C.E "outgoing"
  nE_arrived : NoAttr K C.E "arrived"
  nE_readable : NoAttr K C.E "readable"
  nE_end_sent : NoAttr K C.E "end_sent"
  nE_end_came : NoAttr K C.E "end_came"
  nE_sending : NoAttr K C.E "sending"
  nE_receiving : NoAttr K C.E "receiving"
  cW : Cls K C.W
  nW_key : NoAttr K C.W "key"
  nW_count : NoAttr K C.W "count"
  nW_new_keys : NoAttr K C.W "new_keys"
  cG : Cls K C.G
  nG_own : NoAttr K C.G "own"
  nG_other : NoAttr K C.G "other"
  nG_fleeting : NoAttr K C.G "fleeting"
  nG_own_public : NoAttr K C.G "own_public"
  nG_fleeting_public : NoAttr K C.G "fleeting_public"
  nG_chain : NoAttr K C.G "chain"
  cR : Cls K C.R
  nR_calls : NoAttr K C.R "calls"
  nR_place : NoAttr K C.R "place"
def ef (v0 v1 v2 v3 v4 v5 v6 v7 v8 v9 v10 : V) : List (Str × V) := [("phase", v0), ("leads", v1), ("every", v2), ("greeting", v3), ("outgoing", v4), ("arrived", v5), ("readable", v6), ("end_sent", v7), ("end_came", v8), ("sending", v9), ("receiving", v10)]
section
variable {v0 v1 v2 v3 v4 v5 v6 v7 v8 v9 v10 v : V}
theorem ef_phase : (ef v0 v1 v2 v3 v4 v5 v6 v7 v8 v9 v10).lookup ("phase" : Str) = some v0 := by
  unfold ef
  rw [lk_eq]
theorem ef_put_phase : putF "phase" v (ef v0 v1 v2 v3 v4 v5 v6 v7 v8 v9 v10) = ef v v1 v2 v3 v4 v5 v6 v7 v8 v9 v10 := by
  unfold ef
  rw [pf_eq]
theorem ef_leads : (ef v0 v1 v2 v3 v4 v5 v6 v7 v8 v9 v10).lookup ("leads" : Str) = some v1 := by
  unfold ef
  rw [lk_ne (by decide +kernel), lk_eq]
theorem ef_put_leads : putF "leads" v (ef v0 v1 v2 v3 v4 v5 v6 v7 v8 v9 v10) = ef v0 v v2 v3 v4 v5 v6 v7 v8 v9 v10 := by
  unfold ef
  rw [pf_ne (by decide +kernel), pf_eq]
theorem ef_every : (ef v0 v1 v2 v3 v4 v5 v6 v7 v8 v9 v10).lookup ("every" : Str) = some v2 := by
  unfold ef
  rw [lk_ne (by decide +kernel), lk_ne (by decide +kernel), lk_eq]
theorem ef_put_every : putF "every" v (ef v0 v1 v2 v3 v4 v5 v6 v7 v8 v9 v10) = ef v0 v1 v v3 v4 v5 v6 v7 v8 v9 v10 := by
  unfold ef
  rw [pf_ne (by decide +kernel), pf_ne (by decide +kernel), pf_eq]
theorem ef_greeting : (ef v0 v1 v2 v3 v4 v5 v6 v7 v8 v9 v10).lookup ("greeting" : Str) = some v3 := by
  unfold ef
  rw [lk_ne (by decide +kernel), lk_ne (by decide +kernel), lk_ne (by decide +kernel), lk_eq]
theorem ef_put_greeting : putF "greeting" v (ef v0 v1 v2 v3 v4 v5 v6 v7 v8 v9 v10) = ef v0 v1 v2 v v4 v5 v6 v7 v8 v9 v10 := by
  unfold ef
  rw [pf_ne (by decide +kernel), pf_ne (by decide +kernel), pf_ne (by decide +kernel), pf_eq]
theorem ef_outgoing : (ef v0 v1 v2 v3 v4 v5 v6 v7 v8 v9 v10).lookup ("outgoing" : Str) = some v4 := by
  unfold ef
  rw [lk_ne (by decide +kernel), lk_ne (by decide +kernel), lk_ne (by decide +kernel), lk_ne (by decide +kernel), lk_eq]
theorem ef_put_outgoing : putF "outgoing" v (ef v0 v1 v2 v3 v4 v5 v6 v7 v8 v9 v10) = ef v0 v1 v2 v3 v v5 v6 v7 v8 v9 v10 := by
  unfold ef
  rw [pf_ne (by decide +kernel), pf_ne (by decide +kernel), pf_ne (by decide +kernel), pf_ne (by decide +kernel), pf_eq]
theorem ef_arrived : (ef v0 v1 v2 v3 v4 v5 v6 v7 v8 v9 v10).lookup ("arrived" : Str) = some v5 := by
  unfold ef
  rw [lk_ne (by decide +kernel), lk_ne (by decide +kernel), lk_ne (by decide +kernel), lk_ne (by decide +kernel), lk_ne (by decide +kernel), lk_eq]
theorem ef_put_arrived : putF "arrived" v (ef v0 v1 v2 v3 v4 v5 v6 v7 v8 v9 v10) = ef v0 v1 v2 v3 v4 v v6 v7 v8 v9 v10 := by
  unfold ef
  rw [pf_ne (by decide +kernel), pf_ne (by decide +kernel), pf_ne (by decide +kernel), pf_ne (by decide +kernel), pf_ne (by decide +kernel), pf_eq]
theorem ef_readable : (ef v0 v1 v2 v3 v4 v5 v6 v7 v8 v9 v10).lookup ("readable" : Str) = some v6 := by
  unfold ef
  rw [lk_ne (by decide +kernel), lk_ne (by decide +kernel), lk_ne (by decide +kernel), lk_ne (by decide +kernel), lk_ne (by decide +kernel), lk_ne (by decide +kernel), lk_eq]
theorem ef_put_readable : putF "readable" v (ef v0 v1 v2 v3 v4 v5 v6 v7 v8 v9 v10) = ef v0 v1 v2 v3 v4 v5 v v7 v8 v9 v10 := by
  unfold ef
  rw [pf_ne (by decide +kernel), pf_ne (by decide +kernel), pf_ne (by decide +kernel), pf_ne (by decide +kernel), pf_ne (by decide +kernel), pf_ne (by decide +kernel), pf_eq]
theorem ef_end_sent : (ef v0 v1 v2 v3 v4 v5 v6 v7 v8 v9 v10).lookup ("end_sent" : Str) = some v7 := by
  unfold ef
  rw [lk_ne (by decide +kernel), lk_ne (by decide +kernel), lk_ne (by decide +kernel), lk_ne (by decide +kernel), lk_ne (by decide +kernel), lk_ne (by decide +kernel), lk_ne (by decide +kernel), lk_eq]
theorem ef_put_end_sent : putF "end_sent" v (ef v0 v1 v2 v3 v4 v5 v6 v7 v8 v9 v10) = ef v0 v1 v2 v3 v4 v5 v6 v v8 v9 v10 := by
  unfold ef
  rw [pf_ne (by decide +kernel), pf_ne (by decide +kernel), pf_ne (by decide +kernel), pf_ne (by decide +kernel), pf_ne (by decide +kernel), pf_ne (by decide +kernel), pf_ne (by decide +kernel), pf_eq]
theorem ef_end_came : (ef v0 v1 v2 v3 v4 v5 v6 v7 v8 v9 v10).lookup ("end_came" : Str) = some v8 := by
  unfold ef
  rw [lk_ne (by decide +kernel), lk_ne (by decide +kernel), lk_ne (by decide +kernel), lk_ne (by decide +kernel), lk_ne (by decide +kernel), lk_ne (by decide +kernel), lk_ne (by decide +kernel), lk_ne (by decide +kernel), lk_eq]
theorem ef_put_end_came : putF "end_came" v (ef v0 v1 v2 v3 v4 v5 v6 v7 v8 v9 v10) = ef v0 v1 v2 v3 v4 v5 v6 v7 v v9 v10 := by
  unfold ef
  rw [pf_ne (by decide +kernel), pf_ne (by decide +kernel), pf_ne (by decide +kernel), pf_ne (by decide +kernel), pf_ne (by decide +kernel), pf_ne (by decide +kernel), pf_ne (by decide +kernel), pf_ne (by decide +kernel), pf_eq]
theorem ef_sending : (ef v0 v1 v2 v3 v4 v5 v6 v7 v8 v9 v10).lookup ("sending" : Str) = some v9 := by
  unfold ef
  rw [lk_ne (by decide +kernel), lk_ne (by decide +kernel), lk_ne (by decide +kernel), lk_ne (by decide +kernel), lk_ne (by decide +kernel), lk_ne (by decide +kernel), lk_ne (by decide +kernel), lk_ne (by decide +kernel), lk_ne (by decide +kernel), lk_eq]
theorem ef_put_sending : putF "sending" v (ef v0 v1 v2 v3 v4 v5 v6 v7 v8 v9 v10) = ef v0 v1 v2 v3 v4 v5 v6 v7 v8 v v10 := by
  unfold ef
  rw [pf_ne (by decide +kernel), pf_ne (by decide +kernel), pf_ne (by decide +kernel), pf_ne (by decide +kernel), pf_ne (by decide +kernel), pf_ne (by decide +kernel), pf_ne (by decide +kernel), pf_ne (by decide +kernel), pf_ne (by decide +kernel), pf_eq]
theorem ef_receiving : (ef v0 v1 v2 v3 v4 v5 v6 v7 v8 v9 v10).lookup ("receiving" : Str) = some v10 := by
  unfold ef
  rw [lk_ne (by decide +kernel), lk_ne (by decide +kernel), lk_ne (by decide +kernel), lk_ne (by decide +kernel), lk_ne (by decide +kernel), lk_ne (by decide +kernel), lk_ne (by decide +kernel), lk_ne (by decide +kernel), lk_ne (by decide +kernel), lk_ne (by decide +kernel), lk_eq]
theorem ef_put_receiving : putF "receiving" v (ef v0 v1 v2 v3 v4 v5 v6 v7 v8 v9 v10) = ef v0 v1 v2 v3 v4 v5 v6 v7 v8 v9 v := by
  unfold ef
  rw [pf_ne (by decide +kernel), pf_ne (by decide +kernel), pf_ne (by decide +kernel), pf_ne (by decide +kernel), pf_ne (by decide +kernel), pf_ne (by decide +kernel), pf_ne (by decide +kernel), pf_ne (by decide +kernel), pf_ne (by decide +kernel), pf_ne (by decide +kernel), pf_eq]
theorem ef_no {m : Str} (h : ((["phase", "leads", "every", "greeting", "outgoing", "arrived", "readable", "end_sent", "end_came", "sending", "receiving"] : List Str).all fun x => !(m == x)) = true) : (ef v0 v1 v2 v3 v4 v5 v6 v7 v8 v9 v10).lookup m = none := lk_none h
theorem ef_new : putF "receiving" v10 (putF "sending" v9 (putF "end_came" v8 (putF "end_sent" v7 (putF "readable" v6 (putF "arrived" v5 (putF "outgoing" v4 (putF "greeting" v3 (putF "every" v2 (putF "leads" v1 (putF "phase" v0 ([]))))))))))) = ef v0 v1 v2 v3 v4 v5 v6 v7 v8 v9 v10 := by
  unfold ef
  simp only [pf_nil, pf_ne (nb "phase" "leads"), pf_ne (nb "phase" "every"), pf_ne (nb "leads" "every"), pf_ne (nb "phase" "greeting"), pf_ne (nb "leads" "greeting"), pf_ne (nb "every" "greeting"), pf_ne (nb "phase" "outgoing"), pf_ne (nb "leads" "outgoing"), pf_ne (nb "every" "outgoing"), pf_ne (nb "greeting" "outgoing"), pf_ne (nb "phase" "arrived"), pf_ne (nb "leads" "arrived"), pf_ne (nb "every" "arrived"), pf_ne (nb "greeting" "arrived"), pf_ne (nb "outgoing" "arrived"), pf_ne (nb "phase" "readable"), pf_ne (nb "leads" "readable"), pf_ne (nb "every" "readable"), pf_ne (nb "greeting" "readable"), pf_ne (nb "outgoing" "readable"), pf_ne (nb "arrived" "readable"), pf_ne (nb "phase" "end_sent"), pf_ne (nb "leads" "end_sent"), pf_ne (nb "every" "end_sent"), pf_ne (nb "greeting" "end_sent"), pf_ne (nb "outgoing" "end_sent"), pf_ne (nb "arrived" "end_sent"), pf_ne (nb "readable" "end_sent"), pf_ne (nb "phase" "end_came"), pf_ne (nb "leads" "end_came"), pf_ne (nb "every" "end_came"), pf_ne (nb "greeting" "end_came"), pf_ne (nb "outgoing" "end_came"), pf_ne (nb "arrived" "end_came"), pf_ne (nb "readable" "end_came"), pf_ne (nb "end_sent" "end_came"), pf_ne (nb "phase" "sending"), pf_ne (nb "leads" "sending"), pf_ne (nb "every" "sending"), pf_ne (nb "greeting" "sending"), pf_ne (nb "outgoing" "sending"), pf_ne (nb "arrived" "sending"), pf_ne (nb "readable" "sending"), pf_ne (nb "end_sent" "sending"), pf_ne (nb "end_came" "sending"), pf_ne (nb "phase" "receiving"), pf_ne (nb "leads" "receiving"), pf_ne (nb "every" "receiving"), pf_ne (nb "greeting" "receiving"), pf_ne (nb "outgoing" "receiving"), pf_ne (nb "arrived" "receiving"), pf_ne (nb "readable" "receiving"), pf_ne (nb "end_sent" "receiving"), pf_ne (nb "end_came" "receiving"), pf_ne (nb "sending" "receiving")]
theorem ef_all {u0 u1 u2 u3 u4 u5 u6 u7 u8 u9 u10 : V} : putF "receiving" v10 (putF "sending" v9 (putF "end_came" v8 (putF "end_sent" v7 (putF "readable" v6 (putF "arrived" v5 (putF "outgoing" v4 (putF "greeting" v3 (putF "every" v2 (putF "leads" v1 (putF "phase" v0 (ef u0 u1 u2 u3 u4 u5 u6 u7 u8 u9 u10))))))))))) = ef v0 v1 v2 v3 v4 v5 v6 v7 v8 v9 v10 := by
  rw [ef_put_phase, ef_put_leads, ef_put_every, ef_put_greeting, ef_put_outgoing, ef_put_arrived, ef_put_readable, ef_put_end_sent, ef_put_end_came, ef_put_sending, ef_put_receiving]
end
def wf (v0 v1 v2 : V) : List (Str × V) := [("key", v0), ("count", v1), ("new_keys", v2)]
section
variable {v0 v1 v2 v : V}
theorem wf_key : (wf v0 v1 v2).lookup ("key" : Str) = some v0 := by
  unfold wf
  rw [lk_eq]
theorem wf_put_key : putF "key" v (wf v0 v1 v2) = wf v v1 v2 := by
  unfold wf
  rw [pf_eq]
theorem wf_count : (wf v0 v1 v2).lookup ("count" : Str) = some v1 := by
  unfold wf
  rw [lk_ne (by decide +kernel), lk_eq]
theorem wf_put_count : putF "count" v (wf v0 v1 v2) = wf v0 v v2 := by
  unfold wf
  rw [pf_ne (by decide +kernel), pf_eq]
theorem wf_new_keys : (wf v0 v1 v2).lookup ("new_keys" : Str) = some v2 := by
  unfold wf
  rw [lk_ne (by decide +kernel), lk_ne (by decide +kernel), lk_eq]
theorem wf_put_new_keys : putF "new_keys" v (wf v0 v1 v2) = wf v0 v1 v := by
  unfold wf
  rw [pf_ne (by decide +kernel), pf_ne (by decide +kernel), pf_eq]
theorem wf_no {m : Str} (h : ((["key", "count", "new_keys"] : List Str).all fun x => !(m == x)) = true) : (wf v0 v1 v2).lookup m = none := lk_none h
theorem wf_new : putF "new_keys" v2 (putF "count" v1 (putF "key" v0 ([]))) = wf v0 v1 v2 := by
  unfold wf
  simp only [pf_nil, pf_ne (nb "key" "count"), pf_ne (nb "key" "new_keys"), pf_ne (nb "count" "new_keys")]
end
def gf (v0 v1 v2 v3 v4 v5 : V) : List (Str × V) := [("own", v0), ("other", v1), ("fleeting", v2), ("own_public", v3), ("fleeting_public", v4), ("chain", v5)]
section
variable {v0 v1 v2 v3 v4 v5 v : V}
theorem gf_own : (gf v0 v1 v2 v3 v4 v5).lookup ("own" : Str) = some v0 := by
  unfold gf
  rw [lk_eq]
theorem gf_other : (gf v0 v1 v2 v3 v4 v5).lookup ("other" : Str) = some v1 := by
  unfold gf
  rw [lk_ne (by decide +kernel), lk_eq]
theorem gf_put_other : putF "other" v (gf v0 v1 v2 v3 v4 v5) = gf v0 v v2 v3 v4 v5 := by
  unfold gf
  rw [pf_ne (by decide +kernel), pf_eq]
theorem gf_fleeting : (gf v0 v1 v2 v3 v4 v5).lookup ("fleeting" : Str) = some v2 := by
  unfold gf
  rw [lk_ne (by decide +kernel), lk_ne (by decide +kernel), lk_eq]
theorem gf_put_fleeting : putF "fleeting" v (gf v0 v1 v2 v3 v4 v5) = gf v0 v1 v v3 v4 v5 := by
  unfold gf
  rw [pf_ne (by decide +kernel), pf_ne (by decide +kernel), pf_eq]
theorem gf_own_public : (gf v0 v1 v2 v3 v4 v5).lookup ("own_public" : Str) = some v3 := by
  unfold gf
  rw [lk_ne (by decide +kernel), lk_ne (by decide +kernel), lk_ne (by decide +kernel), lk_eq]
theorem gf_put_own_public : putF "own_public" v (gf v0 v1 v2 v3 v4 v5) = gf v0 v1 v2 v v4 v5 := by
  unfold gf
  rw [pf_ne (by decide +kernel), pf_ne (by decide +kernel), pf_ne (by decide +kernel), pf_eq]
theorem gf_fleeting_public : (gf v0 v1 v2 v3 v4 v5).lookup ("fleeting_public" : Str) = some v4 := by
  unfold gf
  rw [lk_ne (by decide +kernel), lk_ne (by decide +kernel), lk_ne (by decide +kernel), lk_ne (by decide +kernel), lk_eq]
theorem gf_put_fleeting_public : putF "fleeting_public" v (gf v0 v1 v2 v3 v4 v5) = gf v0 v1 v2 v3 v v5 := by
  unfold gf
  rw [pf_ne (by decide +kernel), pf_ne (by decide +kernel), pf_ne (by decide +kernel), pf_ne (by decide +kernel), pf_eq]
theorem gf_chain : (gf v0 v1 v2 v3 v4 v5).lookup ("chain" : Str) = some v5 := by
  unfold gf
  rw [lk_ne (by decide +kernel), lk_ne (by decide +kernel), lk_ne (by decide +kernel), lk_ne (by decide +kernel), lk_ne (by decide +kernel), lk_eq]
theorem gf_put_chain : putF "chain" v (gf v0 v1 v2 v3 v4 v5) = gf v0 v1 v2 v3 v4 v := by
  unfold gf
  rw [pf_ne (by decide +kernel), pf_ne (by decide +kernel), pf_ne (by decide +kernel), pf_ne (by decide +kernel), pf_ne (by decide +kernel), pf_eq]
theorem gf_no {m : Str} (h : ((["own", "other", "fleeting", "own_public", "fleeting_public", "chain"] : List Str).all fun x => !(m == x)) = true) : (gf v0 v1 v2 v3 v4 v5).lookup m = none := lk_none h
theorem gf_new : putF "chain" v5 (putF "fleeting_public" v4 (putF "own_public" v3 (putF "fleeting" v2 (putF "other" v1 (putF "own" v0 ([])))))) = gf v0 v1 v2 v3 v4 v5 := by
  unfold gf
  simp only [pf_nil, pf_ne (nb "own" "other"), pf_ne (nb "own" "fleeting"), pf_ne (nb "other" "fleeting"), pf_ne (nb "own" "own_public"), pf_ne (nb "other" "own_public"), pf_ne (nb "fleeting" "own_public"), pf_ne (nb "own" "fleeting_public"), pf_ne (nb "other" "fleeting_public"), pf_ne (nb "fleeting" "fleeting_public"), pf_ne (nb "own_public" "fleeting_public"), pf_ne (nb "own" "chain"), pf_ne (nb "other" "chain"), pf_ne (nb "fleeting" "chain"), pf_ne (nb "own_public" "chain"), pf_ne (nb "fleeting_public" "chain")]
end
def rf (v0 v1 : V) : List (Str × V) := [("calls", v0), ("place", v1)]
section
variable {v0 v1 v : V}
theorem rf_calls : (rf v0 v1).lookup ("calls" : Str) = some v0 := by
  unfold rf
  rw [lk_eq]
theorem rf_place : (rf v0 v1).lookup ("place" : Str) = some v1 := by
  unfold rf
  rw [lk_ne (by decide +kernel), lk_eq]
theorem rf_put_place : putF "place" v (rf v0 v1) = rf v0 v := by
  unfold rf
  rw [pf_ne (by decide +kernel), pf_eq]
theorem rf_no {m : Str} (h : ((["calls", "place"] : List Str).all fun x => !(m == x)) = true) : (rf v0 v1).lookup m = none := lk_none h
theorem rf_new : putF "place" v1 (putF "calls" v0 ([])) = rf v0 v1 := by
  unfold rf
  simp only [pf_nil, pf_ne (nb "calls" "place")]
end
end S
set_option maxHeartbeats 400000
namespace S
open PySem PySem.Spec PyProof.Rows L2
theorem pe_gstr {X : Cx} {x z : Str} {p : Pos} (h : ∃ t, X.mg x = some (.str z t)) (hg : Gl X x := by rfl) (hdb : (x == ("__debug__" : Str)) = false := by decide) : PE X (.Name x p) (tC (.str z)) := by
  obtain ⟨t, hm⟩ := h
  exact pe_glob hg hm (show RelV (.str z) (.str z t) from ⟨t, rfl⟩) hdb
section
variable {P : Program} {w : World} {K : PySem.W.Frag} {mg : Str → Option Value} {base : Heap} {C : Cs}
abbrev st_first_chain : Stmt := top 49
theorem sc_first_chain : FnScope ["sign"] [] (defScope st_first_chain) := ⟨rfl, rfl, rfl, by decide +kernel, rfl, by decide +kernel, by decide +kernel⟩
theorem bd_first_chain : BindsOf "first_chain" "first_chain" st_first_chain [] := fun _ _ _ _ _ _ us hl => match us, hl with | [], _ => rfl
def spFirst : Sp := fun vs H Q _ => vs = [] ∧ RetL H (bv Sf83.BEGIN) Q
theorem begin_cps : (("sealed streams, one end to other" : Str).cps.toList) = Sf83.nums Sf83.BEGIN := by decide +kernel
theorem ok_first {f : Addr} {fd : FuncData} (F : Fun K "first_chain" "first_chain" st_first_chain f fd) (G : Glb mg) : FnOk P w K mg base CX0 1 f fd [] spFirst := by
  refine F.ok sc_first_chain (fun vs H Q E h => ?_) (fun cdv A outer s H vs Q E hr h => ?_)
  · obtain ⟨rfl, _⟩ := h
    rfl
  · obtain ⟨rfl, r⟩ := h
    refine ⟨_, (pss_one (ps_ret (pe_lc (own := [("sign", 0)]) rfl sc_first_chain.nd (pi_str (pe_gstr G.BEGIN)) (blkOk_by rfl) (fun _ _ _ _ _ => pg_name (i := 0) sc_first_chain.nd rfl (Or.inl rfl)) (fun _ _ _ _ _ => pts_nil) (fun _ _ _ _ _ => (pe_callB call_ord rfl G.ord boot_ord (pa_cons (pv 0) pa_nil)))))), ?_⟩
    have hz : (("sealed streams, one end to other" : Str).cps).size = 32 := by decide +kernel
    refine ⟨_, rfl, fun D hD => ?_⟩
    refine lc_gen (n := 32) (bv Sf83.BEGIN) (by rw [bv_len]; rfl) (by rw [sizeLine_eq]; decide) hD ?_ ?_ ?_ ?_ (gName_mono 0) tYes_mono
    · intro i H' hi _
      show i < _
      rw [hz]
      exact hi
    · intro H' _
      show _ ≤ 32
      rw [hz]
      exact Nat.le_refl _
    · intro i H' x H2 y hi s1 yl hy
      obtain ⟨rfl, c, hc, rfl⟩ := yl
      refine ⟨Same.refl _, fun KK hK => ⟨rfl, iteT (B := False) ?_⟩⟩
      refine ⟨_, rfl, _, rfl, rfl, ?_⟩
      obtain ⟨n, hn, rfl⟩ := nv_get hy
      rw [← begin_cps, Array.getElem?_toList] at hn
      have e : c = n := Option.some.inj (hc.symm.trans hn)
      subst e
      exact hK _ (Same.refl _)
    · intro H' s1 hl
      exact r _ _ s1 hD hl
abbrev st_with_point : Stmt := top 50
theorem sc_with_point : FnScope ["chain", "key", "u", "shared"] ["chain", "key", "u"] (defScope st_with_point) := ⟨rfl, rfl, rfl, by decide +kernel, rfl, by decide +kernel, by decide +kernel⟩
theorem bd_with_point : BindsOf "with_point" "with_point" st_with_point ["chain", "key", "u"] := fun _ _ _ _ _ _ us hl => match us, hl with | [_, _, _], _ => rfl
def spWith (K : PySem.W.Frag) (C : Cs) : Sp := fun vs H Q E => ∃ (c a b : Addr) (ch k u : List UInt8), vs = [.ref c, .ref a, .ref b] ∧ SqL K H c (bv ch) ∧ SqL K H a (bv k) ∧ SqL K H b (bv u) ∧ ch.length = 32 ∧ k.length = 32 ∧ u.length = 32 ∧
  (Sf83.point k u = Sf83.zeros 32 → Rais C.B E H) ∧ (Sf83.point k u ≠ Sf83.zeros 32 → RetL H (bv (Sf83.mixed ch (Sf83.point k u))) Q)
theorem ok_with {f : Addr} {fd : FuncData} (F : Fun K "with_point" "with_point" st_with_point f fd) (G : Glb mg) (T : Txt K mg C) (F_point : Fn P w K mg base "point" 3 ["key", "u"] (spPoint K)) (F_is_zero : Fn P w K mg base "is_zero" 1 ["row"] (spZero K)) (F_mixed : Fn P w K mg base "mixed" 5 ["key", "row"] (spMixed K)) :
    FnOk P w K mg base (CX1 P w) 6 f fd ["chain", "key", "u"] (spWith K C) := by
  refine F.ok1 sc_with_point (fun vs H Q E h => ?_) (fun cdv A outer s H vs Q E hr h => ?_)
  · obtain ⟨c, a, b, ch, k, u, rfl, _⟩ := h
    rfl
  · obtain ⟨c, a, b, ch, k, u, rfl, hc, ha, hb, lc, lk, lu, r1, r2⟩ := h
    refine ⟨_, (pss_cons (ps_set (i := 3) sc_with_point.nd rfl (Or.inl rfl) (pe_fn F_point hr (pa_cons (pv 1) (pa_cons (pv 2) pa_nil)))) (pss_cons (ps_if (pt_truth (pe_fn F_is_zero hr (pa_cons (pv 3) pa_nil)) (fun _ => rfl)) (pss_one (ps_raise0 T.exc hr.hd)) pss_nil) (pss_one (ps_ret (pe_fn F_mixed hr (pa_cons (pv 0) (pa_cons (pv 3) pa_nil))))))), ?_⟩
    refine ⟨_, rfl, _, rfl, a, b, k, u, rfl, ha, hb, by omega, by omega, fun H1 p1 s1 n1 e1 => ?_⟩
    try dsimp only [L2.start, Z1, Z2, Z3, Z4, Z5, Z6, List.replicate, Z7, Z8, Nat.reduceAdd, Nat.reduceSub, Nat.zero_add]
    have lp := M.point_len k u
    generalize Sf83.point k u = pt at *
    refine ⟨_, rfl, p1, _, rfl, SqL.of e1, lp, _, rfl, ?_⟩
    by_cases hz : pt = Sf83.zeros 32
    · rw [decide_eq_true hz]
      exact iteT (r1 hz H1 s1)
    · rw [decide_eq_false hz]
      refine iteF ?_
      refine ⟨_, rfl, _, rfl, c, p1, ch, _, rfl, s1.seq hc, SqL.of e1, lc, lp, ?_⟩
      exact (r2 hz).of s1
abbrev st_longer_chain : Stmt := top 51
theorem sc_longer_chain : FnScope ["chain", "publics", "pairs", "public", "pair"] ["chain", "publics", "pairs"] (defScope st_longer_chain) := ⟨rfl, rfl, rfl, by decide +kernel, rfl, by decide +kernel, by decide +kernel⟩
theorem bd_longer_chain : BindsOf "longer_chain" "longer_chain" st_longer_chain ["chain", "publics", "pairs"] := fun _ _ _ _ _ _ us hl => match us, hl with | [_, _, _], _ => rfl
def PubAt (K : PySem.W.Frag) (H : Hp) (a : Addr) (b : List UInt8) : Prop := SqL K H a (bv b) ∧ b.length = 32
def PairAt (K : PySem.W.Frag) (H : Hp) (t : Addr) (x : List UInt8 × List UInt8) : Prop := ∃ a b, SqT K H t [.ref a, .ref b] ∧ PubAt K H a x.1 ∧ PubAt K H b x.2
theorem PubAt.of {H H' : Hp} {a : Addr} {b : List UInt8} (h : PubAt K H a b) (s : Same H H') : PubAt K H' a b := ⟨s.seq h.1, h.2⟩
def spLonger (K : PySem.W.Frag) (C : Cs) : Sp := fun vs H Q E => ∃ (c p q : Addr) (ch : List UInt8) (as ts : List Addr) (pubs : List (List UInt8)) (prs : List (List UInt8 × List UInt8)), vs = [.ref c, .ref p, .ref q] ∧ PubAt K H c ch ∧ SqL K H p (as.map V.ref) ∧ SqL K H q (ts.map V.ref) ∧
  Paired (PubAt K H) as pubs ∧ Paired (PairAt K H) ts prs ∧ 0 < pubs.length ∧ (Sf83.dhs (pubs.foldl Sf83.mixed ch) prs = none → Rais C.B E H) ∧ ∀ c', Sf83.dhs (pubs.foldl Sf83.mixed ch) prs = some c' → RetL H (bv c') Q
theorem fold_mixed_len : ∀ (l : List (List UInt8)) (c : List UInt8), c.length = 32 → (l.foldl Sf83.mixed c).length = 32
  | [], c, h => h
  | x :: l, c, h => by
    rw [List.foldl_cons]
    exact fold_mixed_len l (Sf83.mixed c x) (M.mixed_len c x)
theorem fold_take {l : List (List UInt8)} {i : Nat} {x : List UInt8} (h : l[i]? = some x) (c : List UInt8) : (l.take (i + 1)).foldl Sf83.mixed c = Sf83.mixed ((l.take i).foldl Sf83.mixed c) x := by
  rw [List.take_succ, h, Option.toList_some, List.foldl_append, List.foldl_cons, List.foldl_nil]
theorem dhs_cons (c : List UInt8) (x : List UInt8 × List UInt8) (l : List (List UInt8 × List UInt8)) : Sf83.dhs c (x :: l) = if Sf83.point x.1 x.2 = Sf83.zeros 32 then none else Sf83.dhs (Sf83.mixed c (Sf83.point x.1 x.2)) l := rfl
theorem ok_longer {f : Addr} {fd : FuncData} (F : Fun K "longer_chain" "longer_chain" st_longer_chain f fd) (G : Glb mg) (T : Txt K mg C) (F_with_point : Fn1 P w K mg base "with_point" 6 ["chain", "key", "u"] (spWith K C)) (F_mixed : Fn P w K mg base "mixed" 5 ["key", "row"] (spMixed K)) :
    FnOk P w K mg base (CX1 P w) 7 f fd ["chain", "publics", "pairs"] (spLonger K C) := by
  refine F.ok1 sc_longer_chain (fun vs H Q E h => ?_) (fun cdv A outer s H vs Q E hr h => ?_)
  · obtain ⟨c, p, q, ch, as, ts, pubs, prs, rfl, _⟩ := h
    rfl
  · obtain ⟨c, p, q, ch, as, ts, pubs, prs, rfl, hc, hp, hq, ha, ht, h0, r1, r2⟩ := h
    refine ⟨_, (pss_cons (ps_for own1 rfl (pi_list (pv 1)) (pg_name (i := 3) sc_longer_chain.nd rfl (Or.inl rfl)) (pss_one (ps_set (i := 0) sc_longer_chain.nd rfl (Or.inl rfl) (pe_fn F_mixed hr (pa_cons (pv 0) (pa_cons (pv 3) pa_nil)))))) (pss_cons (ps_for own1 rfl (pi_list (pv 2)) (pg_name (i := 4) sc_longer_chain.nd rfl (Or.inl rfl)) (pss_one (ps_set (i := 0) sc_longer_chain.nd rfl (Or.inl rfl) (pe_fnX F_with_point hr (by decide) (pass1 fun _ _ _ h => h) (pa_cons (pv 0) (pa_cons (pe_ix ix_tup (pv 4) pe_int (fun _ _ => rfl)) (pa_cons (pe_ix ix_tup (pv 4) pe_int (fun _ _ => rfl)) pa_nil))))))) (pss_one (ps_ret (pv 0))))), ?_⟩
    refine ⟨_, rfl, p, rfl, ⟨_, hp⟩, for_list (K := K) (a := p) (xs := as.map V.ref) (fun i σ H' => ∃ (x : Addr) (v3 : Option V), σ = [some (.ref x), some (.ref p), some (.ref q), v3, none] ∧ Same H H' ∧ SqL K H' x (bv ((pubs.take i).foldl Sf83.mixed ch)) ∧ (0 < i → H x = none ∧ H' x = some (.lst (bv ((pubs.take i).foldl Sf83.mixed ch)))))
      ⟨c, none, rfl, Same.refl H, hc.1, fun z => absurd z (Nat.lt_irrefl _)⟩ (fun i σ H' _ ⟨_, _, _, s5, _⟩ => s5.seq hp) ?_ ?_⟩
    · rintro i y σ H' hi ⟨x, v3, rfl, s5, hx, _⟩
      obtain ⟨a, hai, rfl⟩ := refs_get hi
      obtain ⟨b, hbi, hab⟩ := Paired.at ha hai
      refine ⟨_, rfl, _, rfl, x, a, _, b, rfl, hx, (hab.of s5).1, fold_mixed_len _ _ hc.2, hab.2, fun H6 p6 s6 n6 e6 => ?_⟩
      rw [← fold_take hbi] at e6
      exact ⟨p6, _, rfl, s5.trans s6, SqL.of e6, fun _ => ⟨s5.free n6, e6⟩⟩
    · rintro σ H' ⟨x, v3, rfl, s5, _, hx⟩
      have hlen : as.length = pubs.length := Paired.length ha
      rw [List.length_map, hlen, List.take_length] at hx
      obtain ⟨hx0, hx⟩ := hx h0
      have hl0 := fold_mixed_len pubs ch hc.2
      refine ⟨_, rfl, q, rfl, ⟨_, s5.seq hq⟩, for_list (K := K) (a := q) (xs := ts.map V.ref) (fun j σ H2 => ∃ (y : Addr) (c2 : List UInt8) (v4 : Option V), σ = [some (.ref y), some (.ref p), some (.ref q), v3, v4] ∧ Same H H2 ∧ H y = none ∧ H2 y = some (.lst (bv c2)) ∧ c2.length = 32 ∧ Sf83.dhs c2 (prs.drop j) = Sf83.dhs (pubs.foldl Sf83.mixed ch) prs)
        ⟨x, _, none, rfl, s5, hx0, hx, hl0, rfl⟩ (fun i σ H' _ ⟨_, _, _, _, s6, _⟩ => s6.seq hq) ?_ ?_⟩
      · rintro j y σ H2 hj ⟨z, c2, v4, rfl, s6, hz0, hz, lz, hd⟩
        obtain ⟨t, hti, rfl⟩ := refs_get hj
        obtain ⟨pr, hpr, a, b, hT, hA, hB⟩ := Paired.at ht hti
        have hdj : prs.drop j = pr :: prs.drop (j + 1) := by
          obtain ⟨hlt, e⟩ := List.getElem?_eq_some_iff.mp hpr
          rw [List.drop_eq_getElem_cons hlt, e]
        rw [hdj, dhs_cons] at hd
        refine ⟨_, rfl, _, rfl, t, _, _, _, rfl, rfl, s6.tupl hT, rfl, _, rfl, t, _, _, _, rfl, rfl, s6.tupl hT, rfl, ?_⟩
        refine ⟨z, a, b, c2, pr.1, pr.2, rfl, SqL.of hz, s6.seq hA.1, s6.seq hB.1, lz, hA.2, hB.2, fun e => ?_, fun e => ?_⟩
        · rw [if_pos e] at hd
          exact (r1 hd.symm).of s6
        · rw [if_neg e] at hd
          intro H7 p7 s7 n7 e7
          exact ⟨p7, _, _, rfl, s6.trans s7, s6.free n7, e7, M.mixed_len _ _, hd⟩
      · rintro σ H2 ⟨z, c2, v4, rfl, s6, hz0, hz, lz, hd⟩
        have hl2 : ts.length = prs.length := Paired.length ht
        rw [List.length_map, hl2, List.drop_length] at hd
        exact ⟨_, rfl, RetL.go (r2 c2 hd.symm) s6 hz0 hz⟩
abbrev st_proof : Stmt := top 52
theorem sc_proof : FnScope ["chain"] ["chain"] (defScope st_proof) := ⟨rfl, rfl, rfl, by decide +kernel, rfl, by decide +kernel, by decide +kernel⟩
theorem bd_proof : BindsOf "proof" "proof" st_proof ["chain"] := fun _ _ _ _ _ _ us hl => match us, hl with | [_], _ => rfl
def spProof (K : PySem.W.Frag) : Sp := fun vs H Q _ => ∃ (c : Addr) (ch : List UInt8), vs = [.ref c] ∧ PubAt K H c ch ∧ RetL H (bv (Sf83.proof ch)) Q
theorem nonce_zero : Sf83.nonce 0 = Sf83.zeros 12 := by decide
theorem ok_proof {f : Addr} {fd : FuncData} (F : Fun K "proof" "proof" st_proof f fd) (G : Glb mg) (T : Tups K mg) (F_sealed : Fn P w K mg base "sealed" 6 ["key", "nonce", "along", "row"] (spSeal K)) : FnOk P w K mg base CX0 7 f fd ["chain"] (spProof K) := by
  obtain ⟨na, G_NONCE_ZERO, hn⟩ := T.nz
  refine F.ok sc_proof (fun vs H Q E h => ?_) (fun cdv A outer s H vs Q E hr h => ?_)
  · obtain ⟨c, ch, rfl, _⟩ := h
    rfl
  · obtain ⟨c, ch, rfl, hc, r⟩ := h
    refine ⟨_, (pss_one (ps_ret (pe_fn F_sealed hr (pa_cons (pv 0) (pa_cons (pe_callTy call_list_of rfl G.list PyProof.Rows.boot_list (pa_cons (pe_gref G_NONCE_ZERO) pa_nil)) (pa_cons (pe_lst pa_nil) (pa_cons (pe_lst pa_nil) pa_nil))))))), ?_⟩
    refine ⟨_, rfl, na, _, rfl, .inr (hn _), fun l hl => ⟨Nat.zero_le _, fun p2 n2 => ⟨Nat.zero_le _, fun p3 n3 => ?_⟩⟩⟩
    obtain ⟨s3, e1, e2, e3⟩ := three_new (o3 := .lst []) hl n2 n3
    refine ⟨c, l, p2, p3, ch, Sf83.zeros 12, [], [], rfl, s3.seq hc.1, SqL.of e1, e2, SqL.of e3, hc.2, by decide, Nat.zero_le _, Nat.zero_le _, ?_⟩
    rw [← nonce_zero]
    exact r.of s3
abbrev st_check_proof : Stmt := top 53
theorem sc_check_proof : FnScope ["chain", "message"] ["chain", "message"] (defScope st_check_proof) := ⟨rfl, rfl, rfl, by decide +kernel, rfl, by decide +kernel, by decide +kernel⟩
theorem bd_check_proof : BindsOf "check_proof" "check_proof" st_check_proof ["chain", "message"] := fun _ _ _ _ _ _ us hl => match us, hl with | [_, _], _ => rfl
def spCheck (K : PySem.W.Frag) (C : Cs) : Sp := fun vs H Q E => ∃ (c m : Addr) (ch msg : List UInt8), vs = [.ref c, .ref m] ∧ PubAt K H c ch ∧ SqL K H m (bv msg) ∧ (Sf83.proof ch ≠ msg.drop 32 → Rais C.B E H) ∧ (Sf83.proof ch = msg.drop 32 → ∀ H', Same H H' → Q .non H')
theorem ok_check {f : Addr} {fd : FuncData} (F : Fun K "check_proof" "check_proof" st_check_proof f fd) (G : Glb mg) (T : Txt K mg C) (F_proof : Fn P w K mg base "proof" 7 ["chain"] (spProof K)) : FnOk P w K mg base (CX1 P w) 8 f fd ["chain", "message"] (spCheck K C) := by
  refine F.ok1 sc_check_proof (fun vs H Q E h => ?_) (fun cdv A outer s H vs Q E hr h => ?_)
  · obtain ⟨c, m, ch, msg, rfl, _⟩ := h
    rfl
  · obtain ⟨c, m, ch, msg, rfl, hc, hm, r1, r2⟩ := h
    refine ⟨_, (pss_one (ps_if (pt_cmpR (op_neD hr.units) (pe_fn F_proof hr (pa_cons (pv 0) pa_nil)) (pe_slice sl_list (pv 1) (po_some (pe_gint G.ksize)) po_none) (nomark _)) (pss_one (ps_raise0 T.exc hr.hd)) pss_nil)), ?_⟩
    refine ⟨_, rfl, c, ch, rfl, hc, fun H1 p1 s1 n1 e1 => ?_⟩
    refine ⟨_, rfl, _, rfl, m, _, rfl, s1.seq hm, fun p2 n2 => ?_⟩
    rw [show cutV (bv msg) (some 32) none = bv (msg.drop 32) from (cut_nx _ 32).trans (bv_drop _ 32)]
    have t2 := s1.upd (o := .lst (bv (msg.drop 32))) (s1.free n2)
    refine ⟨_, _, dp_list (SqL.of ((upd_ne (ne_of_none e1 n2)).trans e1)), dp_list (SqL.of upd_same), dat_shaped _, dat_shaped _, _, rfl, ?_⟩
    show if (!PyData.eqvAll (dat (Sf83.proof ch)) (dat (msg.drop 32))) = true then _ else _
    rw [dat_eqv]
    by_cases hz : Sf83.proof ch = msg.drop 32
    · rw [decide_eq_true hz]
      exact iteF (r2 hz _ t2)
    · rw [decide_eq_false hz]
      exact iteT (r1 hz _ t2)
end
theorem putF_lt {f : Str} {v : V} : ∀ {fs : List (Str × V)} {n : Nat}, fs.length < n → (putF f v fs).length < n + 1
  | [], n, h => by show 1 < n + 1; have : 0 < n := h; omega
  | (g, x) :: r, n, h => by
    show (if g = f then (g, v) :: r else (g, x) :: putF f v r).length < n + 1
    have hr : r.length + 1 < n := h
    split
    · show r.length + 1 < n + 1
      omega
    · obtain ⟨m, rfl⟩ : ∃ m, n = m + 1 := ⟨n - 1, by omega⟩
      have ih := putF_lt (f := f) (v := v) (fs := r) (n := m) (by omega)
      show (putF f v r).length + 1 < m + 1 + 1
      omega
theorem SqL.upd_ins {K : PySem.W.Frag} {H : Hp} {t a C dx : Addr} {xs : List V} {fs gs : List (Str × V)} (h : SqL K H t xs) (ha : H a = some (.ins C dx fs)) : SqL K (upd H a (.ins C dx gs)) t xs := by
  rcases h with h | h
  · left
    have key : ∀ o, H t = some o → (∀ C dx l, o ≠ .ins C dx l) → upd H a (.ins C dx gs) t = some o := fun o e no => by
      rw [upd_ne (fun z => no _ _ _ (by subst z; rw [ha] at e; exact (Option.some.inj e).symm))]
      exact e
    rcases h with h | ⟨o, h⟩
    · exact .inl (key _ h (fun _ _ l z => nomatch z))
    · exact .inr ⟨o, key _ h (fun _ _ l z => nomatch z)⟩
  · exact .inr h
theorem dhs_len (l : List (List UInt8 × List UInt8)) : ∀ (c c' : List UInt8), c.length = 32 → Sf83.dhs c l = some c' → c'.length = 32 := by
  induction l with
  | nil =>
    intro c c' h e
    have e : some c = some c' := e
    rw [← Option.some.inj e]
    exact h
  | cons x l ih =>
    intro c c' h e
    rw [dhs_cons] at e
    generalize Sf83.point x.1 x.2 = pt at e
    by_cases hz : pt = Sf83.zeros 32
    · rw [if_pos hz] at e
      cases e
    · rw [if_neg hz] at e
      exact ih (Sf83.mixed c pt) c' (M.mixed_len _ _) e
section
variable {P : Program} {w : World} {K : PySem.W.Frag} {mg : Str → Option Value} {base : Heap} {C : Cs}
structure GrAt (K : PySem.W.Frag) (C : Cs) (H : Hp) (g dg a b c op fp ch : Addr) (mine theirs fl pm pf chain : List UInt8) : Prop where
  obj : H g = some (.ins C.G dg (gf (.ref a) (.ref b) (.ref c) (.ref op) (.ref fp) (.ref ch)))
  own : PubAt K H a mine
  oth : PubAt K H b theirs
  fle : PubAt K H c fl
  pub : PubAt K H op pm
  fpu : H fp = some (.lst (bv pf))
  fpl : pf.length = 32
  cha : PubAt K H ch chain
section
variable {H H' : Hp} {g dg a b c op fp ch : Addr} {mine theirs fl pm pf chain : List UInt8}
theorem GrAt.same (A : GrAt K C H g dg a b c op fp ch mine theirs fl pm pf chain) (s : Same H H') : GrAt K C H' g dg a b c op fp ch mine theirs fl pm pf chain :=
  ⟨s _ _ A.obj, A.own.of s, A.oth.of s, A.fle.of s, A.pub.of s, s _ _ A.fpu, A.fpl, A.cha.of s⟩
theorem PubAt.upd_ins {C dx : Addr} {fs gs : List (Str × V)} (h : PubAt K H a mine) (ha : H g = some (.ins C dx fs)) : PubAt K (upd H g (.ins C dx gs)) a mine := ⟨SqL.upd_ins h.1 ha, h.2⟩
theorem GrAt.put {ch' : Addr} {c' : List UInt8} (A : GrAt K C H g dg a b c op fp ch mine theirs fl pm pf chain) (e : H ch' = some (.lst (bv c'))) (l : c'.length = 32) :
    GrAt K C (upd H g (.ins C.G dg (gf (.ref a) (.ref b) (.ref c) (.ref op) (.ref fp) (.ref ch')))) g dg a b c op fp ch' mine theirs fl pm pf c' :=
  ⟨upd_same, A.own.upd_ins A.obj, A.oth.upd_ins A.obj, A.fle.upd_ins A.obj, A.pub.upd_ins A.obj, (upd_ne (ne_of A.fpu A.obj (by intro z; cases z))).trans A.fpu, A.fpl, PubAt.upd_ins ⟨SqL.of e, l⟩ A.obj⟩
theorem GrAt.fpp (A : GrAt K C H g dg a b c op fp ch mine theirs fl pm pf chain) : PubAt K H fp pf := ⟨SqL.of A.fpu, A.fpl⟩
end
abbrev st_Greeting_init : Stmt := inClass (top 54) 0
theorem sc_Greeting_init : FnScope ["self", "own", "other", "fleeting"] ["self", "own", "other", "fleeting"] (defScope st_Greeting_init) := ⟨rfl, rfl, rfl, by decide +kernel, rfl, by decide +kernel, by decide +kernel⟩
theorem bd_Greeting_init : BindsOf "__init__" "Greeting.__init__" st_Greeting_init ["self", "own", "other", "fleeting"] := fun _ _ _ _ _ _ us hl => match us, hl with | [_, _, _, _], _ => rfl
def spGInit (K : PySem.W.Frag) (C : Cs) : Sp := fun vs H Q _ => ∃ (x dx a b c : Addr) (mine fl : List UInt8), vs = [.ref x, .ref a, .ref b, .ref c] ∧ H x = some (.ins C.G dx []) ∧ PubAt K H a mine ∧ PubAt K H c fl ∧
  ∀ (H' : Hp) (op fp ch : Addr), Keep H H' [x] → H' x = some (.ins C.G dx (gf (.ref a) (.ref b) (.ref c) (.ref op) (.ref fp) (.ref ch))) → H op = none → H' op = some (.lst (bv (Sf83.publicOf mine))) → H fp = none → H' fp = some (.lst (bv (Sf83.publicOf fl))) → H ch = none → H' ch = some (.lst (bv Sf83.BEGIN)) →
    op ≠ fp → op ≠ ch → fp ≠ ch → Q .non H'
theorem ok_ginit {f : Addr} {fd : FuncData} (F : Fun K "__init__" "Greeting.__init__" st_Greeting_init f fd) (G : Glb mg) (T : Txt K mg C) (F_public_key : Fn P w K mg base "public_key" 4 ["key"] (spPub K)) (F_first_chain : Fn P w K mg base "first_chain" 1 [] spFirst) :
    FnOk P w K mg base CX0 5 f fd ["self", "own", "other", "fleeting"] (spGInit K C) := by
  refine F.ok sc_Greeting_init (fun vs H Q E h => ?_) (fun cdv A outer s H vs Q E hr h => ?_)
  · obtain ⟨x, dx, a, b, c, mine, fl, rfl, _⟩ := h
    rfl
  · obtain ⟨x, dx, a, b, c, mine, fl, rfl, hx, ha, hc, r⟩ := h
    generalize e1 : Sf83.publicOf mine = pm at r
    generalize e2 : Sf83.publicOf fl = pf at r
    refine ⟨_, (pss_cons (ps_fld (pv 0) (pv 1) rfl) (pss_cons (ps_fld (pv 0) (pv 2) rfl) (pss_cons (ps_fld (pv 0) (pv 3) rfl) (pss_cons (ps_fld (pv 0) (pe_fn F_public_key hr (pa_cons (pv 1) pa_nil)) rfl) (pss_cons (ps_fld (pv 0) (pe_fn F_public_key hr (pa_cons (pv 3) pa_nil)) rfl) (pss_one (ps_fld (pv 0) (pe_fn0 F_first_chain hr) rfl))))))), ?_⟩
    refine ⟨_, rfl, _, rfl, x, _, dx, _, rfl, hx, T.cG, T.nG_own, (by decide), ?_⟩
    refine ⟨_, rfl, _, rfl, x, _, dx, _, rfl, upd_same, T.cG, T.nG_other, (putF_lt (by decide)), ?_⟩
    rw [upd_upd]
    refine ⟨_, rfl, _, rfl, x, _, dx, _, rfl, upd_same, T.cG, T.nG_fleeting, (putF_lt (putF_lt (by decide))), ?_⟩
    rw [upd_upd]
    refine ⟨_, rfl, a, mine, rfl, SqL.upd_ins ha.1 hx, by have := ha.2; omega, fun H1 p1 s1 n1 q1 => ?_⟩
    have x1 := s1 _ _ upd_same
    refine ⟨_, rfl, x, _, dx, _, rfl, x1, T.cG, T.nG_own_public, (putF_lt (putF_lt (putF_lt (by decide)))), ?_⟩
    rw [e1] at q1
    have q1' : upd H1 x (.ins C.G dx (putF "own_public" (V.ref p1) (putF "fleeting" (V.ref c) (putF "other" (V.ref b) (putF "own" (V.ref a) []))))) p1 = _ := (upd_ne (ne_of q1 x1 (by intro z; cases z))).trans q1
    have k1 : Keep H (upd H1 x (.ins C.G dx (putF "own_public" (V.ref p1) (putF "fleeting" (V.ref c) (putF "other" (V.ref b) (putF "own" (V.ref a) [])))))) [x] := (Keep.of_upd.trans_same s1).upd_in (.inl (List.mem_singleton_self _))
    have f1 : H p1 = none := by
      rcases Keep.of_upd.free n1 with z | z
      · exact z
      · rw [List.mem_singleton.mp z, upd_same] at n1; cases n1
    refine ⟨_, rfl, c, fl, rfl, SqL.upd_ins (s1.seq (SqL.upd_ins hc.1 hx)) x1, by have := hc.2; omega, fun H2 p2 s2 n2 q2 => ?_⟩
    have x2 := s2 _ _ upd_same
    refine ⟨_, rfl, x, _, dx, _, rfl, x2, T.cG, T.nG_fleeting_public, (putF_lt (putF_lt (putF_lt (putF_lt (by decide))))), ?_⟩
    rw [e2] at q2
    have q12 := s2 _ _ q1'
    have d12 : p1 ≠ p2 := ne_of_none q1' n2
    have f2 : H p2 = none := by
      rcases k1.free n2 with z | z
      · exact z
      · rw [List.mem_singleton.mp z, upd_same] at n2; cases n2
    have k2 := (k1.trans_same s2).upd_in (a := x) (o := .ins C.G dx (putF "fleeting_public" (V.ref p2) (putF "own_public" (V.ref p1) (putF "fleeting" (V.ref c) (putF "other" (V.ref b) (putF "own" (V.ref a) [])))))) (.inl (List.mem_singleton_self _))
    have y1 := (upd_ne (o := .ins C.G dx (putF "fleeting_public" (V.ref p2) (putF "own_public" (V.ref p1) (putF "fleeting" (V.ref c) (putF "other" (V.ref b) (putF "own" (V.ref a) [])))))) (ne_of q12 x2 (by intro z; cases z))).trans q12
    have y2 := (upd_ne (o := .ins C.G dx (putF "fleeting_public" (V.ref p2) (putF "own_public" (V.ref p1) (putF "fleeting" (V.ref c) (putF "other" (V.ref b) (putF "own" (V.ref a) [])))))) (ne_of q2 x2 (by intro z; cases z))).trans q2
    refine ⟨rfl, fun H3 p3 s3 n3 q3 => ?_⟩
    have x3 := s3 _ _ upd_same
    refine ⟨_, rfl, x, _, dx, _, rfl, x3, T.cG, T.nG_chain, (putF_lt (putF_lt (putF_lt (putF_lt (putF_lt (by decide)))))), ?_⟩
    have f3 : H p3 = none := by
      rcases k2.free n3 with z | z
      · exact z
      · rw [List.mem_singleton.mp z, upd_same] at n3; cases n3
    rw [gf_new]
    refine r _ p1 p2 p3 ((k2.trans_same s3).upd_in (.inl (List.mem_singleton_self _))) upd_same f1 ?_ f2 ?_ f3 ?_ d12 (ne_of_none y1 n3) (ne_of_none y2 n3)
    · exact (upd_ne (ne_of (s3 _ _ y1) x3 (by intro z; cases z))).trans (s3 _ _ y1)
    · exact (upd_ne (ne_of (s3 _ _ y2) x3 (by intro z; cases z))).trans (s3 _ _ y2)
    · exact (upd_ne (ne_of q3 x3 (by intro z; cases z))).trans q3
abbrev st_Greeting_message : Stmt := inClass (top 54) 1
theorem sc_Greeting_message : FnScope ["self"] ["self"] (defScope st_Greeting_message) := ⟨rfl, rfl, rfl, by decide +kernel, rfl, by decide +kernel, by decide +kernel⟩
theorem bd_Greeting_message : BindsOf "message" "Greeting.message" st_Greeting_message ["self"] := fun _ _ _ _ _ _ us hl => match us, hl with | [_], _ => rfl
def spMsg (K : PySem.W.Frag) (C : Cs) : Sp := fun vs H Q _ => ∃ (g dg a b c op fp ch : Addr) (mine theirs fl pm pf chain : List UInt8), vs = [.ref g] ∧ GrAt K C H g dg a b c op fp ch mine theirs fl pm pf chain ∧ RetL H (bv (pf ++ Sf83.proof chain)) Q
theorem proof_len (c : List UInt8) : (Sf83.proof c).length = 16 := M.sealOf_len _ _ _ _
theorem ok_msg {f : Addr} {fd : FuncData} (F : Fun K "message" "Greeting.message" st_Greeting_message f fd) (G : Glb mg) (T : Txt K mg C) (F_proof : Fn P w K mg base "proof" 7 ["chain"] (spProof K)) : FnOk P w K mg base CX0 8 f fd ["self"] (spMsg K C) := by
  refine F.ok sc_Greeting_message (fun vs H Q E h => ?_) (fun cdv A outer s H vs Q E hr h => ?_)
  · obtain ⟨g, dg, a, b, c, op, fp, ch, mine, theirs, fl, pm, pf, chain, rfl, _⟩ := h
    rfl
  · obtain ⟨g, dg, a, b, c, op, fp, ch, mine, theirs, fl, pm, pf, chain, rfl, A, r⟩ := h
    refine ⟨_, (pss_one (ps_ret (pe_op op_cat (pe_fld (pv 0) rfl) (pe_fn F_proof hr (pa_cons (pe_fld (pv 0) rfl) pa_nil))))), ?_⟩
    refine ⟨_, rfl, _, _, _, _, _, rfl, A.obj, T.cG, T.nG_fleeting_public, gf_fleeting_public, _, rfl, _, _, _, _, _, rfl, A.obj, T.cG, T.nG_chain, gf_chain, ch, chain, rfl, A.cha, fun H1 p1 s1 n1 e1 => ?_⟩
    refine ⟨fp, p1, _, _, rfl, rfl, s1 _ _ A.fpu, e1, by rw [bv_len, bv_len, proof_len, A.fpl, sizeLine_eq]; decide, fun p2 n2 => ?_⟩
    rw [← bv_app]
    exact r.new s1 n2
abbrev st_Greeting_lead : Stmt := inClass (top 54) 2
theorem sc_Greeting_lead : FnScope ["self", "publics", "pairs"] ["self"] (defScope st_Greeting_lead) := ⟨rfl, rfl, rfl, by decide +kernel, rfl, by decide +kernel, by decide +kernel⟩
theorem bd_Greeting_lead : BindsOf "lead" "Greeting.lead" st_Greeting_lead ["self"] := fun _ _ _ _ _ _ us hl => match us, hl with | [_], _ => rfl
def Chained (C : Cs) (H : Hp) (g dg a b c op fp : Addr) (c' : List UInt8) (Q : VK) : Prop :=
  ∀ (H' : Hp) (ch' : Addr), Keep H H' [g] → H' g = some (.ins C.G dg (gf (.ref a) (.ref b) (.ref c) (.ref op) (.ref fp) (.ref ch'))) → H ch' = none → H' ch' = some (.lst (bv c')) → c'.length = 32 → Q .non H'
def RaisK (C : Addr) (E : XK) (H : Hp) (A : List Addr) : Prop := ∀ H', Keep H H' A → E (.ref C) none H'
def spLead (K : PySem.W.Frag) (C : Cs) : Sp := fun vs H Q E => ∃ (g dg a b c op fp ch : Addr) (mine theirs fl pm pf chain : List UInt8), vs = [.ref g] ∧ GrAt K C H g dg a b c op fp ch mine theirs fl pm pf chain ∧
  (Sf83.dhs ([pm, theirs, pf].foldl Sf83.mixed chain) [(fl, theirs), (mine, theirs)] = none → RaisK C.B E H [g]) ∧
  ∀ c', Sf83.dhs ([pm, theirs, pf].foldl Sf83.mixed chain) [(fl, theirs), (mine, theirs)] = some c' → Chained C H g dg a b c op fp c' Q
theorem ok_lead {f : Addr} {fd : FuncData} (F : Fun K "lead" "Greeting.lead" st_Greeting_lead f fd) (G : Glb mg) (T : Txt K mg C) (F_longer_chain : Fn1 P w K mg base "longer_chain" 7 ["chain", "publics", "pairs"] (spLonger K C)) : FnOk P w K mg base (CX1 P w) 8 f fd ["self"] (spLead K C) := by
  refine F.ok1 sc_Greeting_lead (fun vs H Q E h => ?_) (fun cdv A outer s H vs Q E hr h => ?_)
  · obtain ⟨g, dg, a, b, c, op, fp, ch, mine, theirs, fl, pm, pf, chain, rfl, _⟩ := h
    rfl
  · obtain ⟨g, dg, a, b, c, op, fp, ch, mine, theirs, fl, pm, pf, chain, rfl, B, r1, r2⟩ := h
    refine ⟨_, (pss_cons (ps_set (i := 1) sc_Greeting_lead.nd rfl (Or.inl rfl) (pe_lst (pa_cons (pe_fld (pv 0) rfl) (pa_cons (pe_fld (pv 0) rfl) (pa_cons (pe_fld (pv 0) rfl) pa_nil))))) (pss_cons (ps_set (i := 2) sc_Greeting_lead.nd rfl (Or.inl rfl) (pe_lst (pa_cons (pe_tup (pa_cons (pe_fld (pv 0) rfl) (pa_cons (pe_fld (pv 0) rfl) pa_nil))) (pa_cons (pe_tup (pa_cons (pe_fld (pv 0) rfl) (pa_cons (pe_fld (pv 0) rfl) pa_nil))) pa_nil)))) (pss_one (ps_fld (pv 0) (pe_fnX F_longer_chain hr (by decide) (pass1 fun _ _ _ h => h) (pa_cons (pe_fld (pv 0) rfl) (pa_cons (pv 1) (pa_cons (pv 2) pa_nil)))) rfl)))), ?_⟩
    refine ⟨_, rfl, _, _, _, _, _, rfl, B.obj, T.cG, T.nG_own_public, gf_own_public, _, rfl, _, _, _, _, _, rfl, B.obj, T.cG, T.nG_other, gf_other, _, rfl, _, _, _, _, _, rfl, B.obj, T.cG, T.nG_fleeting_public, gf_fleeting_public, (by show 3 ≤ sizeLine; rw [sizeLine_eq]; decide), fun p1 n1 => ?_⟩
    have s1 := (Same.refl H).upd (o := .lst [V.ref op, V.ref b, V.ref fp]) n1
    have B1 := B.same s1
    try dsimp only [L2.start, Z1, Z2, Z3, Z4, Z5, Z6, List.replicate, Z7, Z8, Nat.reduceAdd, Nat.reduceSub, Nat.zero_add]
    refine ⟨_, rfl, _, _, _, _, _, rfl, B1.obj, T.cG, T.nG_fleeting, gf_fleeting, _, rfl, _, _, _, _, _, rfl, B1.obj, T.cG, T.nG_other, gf_other, (by show 2 ≤ sizeLine; rw [sizeLine_eq]; decide), fun t1 m1 => ?_⟩
    have s2 := s1.upd (o := .tup [V.ref c, V.ref b]) (s1.free m1)
    have B2 := B.same s2
    refine ⟨_, rfl, _, _, _, _, _, rfl, B2.obj, T.cG, T.nG_own, gf_own, _, rfl, _, _, _, _, _, rfl, B2.obj, T.cG, T.nG_other, gf_other, (by show 2 ≤ sizeLine; rw [sizeLine_eq]; decide), fun t2 m2 => ?_⟩
    have s3 := s2.upd (o := .tup [V.ref a, V.ref b]) (s2.free m2)
    have B3 := B.same s3
    refine ⟨(by show 2 ≤ sizeLine; rw [sizeLine_eq]; decide), fun p2 n2 => ?_⟩
    have s4 := s3.upd (o := .lst [V.ref t1, V.ref t2]) (s3.free n2)
    have B4 := B.same s4
    have u2 := (Same.refl _).upd (o := .tup [V.ref c, V.ref b]) m1
    have u3 := (Same.refl _).upd (o := .tup [V.ref a, V.ref b]) m2
    have u4 := (Same.refl _).upd (o := .lst [V.ref t1, V.ref t2]) n2
    have z1 := u4 _ _ (u3 _ _ upd_same)
    have z2 := u4 _ _ upd_same
    have zp := u4 _ _ (u3 _ _ (u2 _ _ upd_same))
    try dsimp only [L2.start, Z1, Z2, Z3, Z4, Z5, Z6, List.replicate, Z7, Z8, Nat.reduceAdd, Nat.reduceSub, Nat.zero_add]
    refine ⟨_, rfl, _, _, _, _, _, rfl, B4.obj, T.cG, T.nG_chain, gf_chain, _, rfl, _, rfl, ch, p1, p2, chain, [op, b, fp], [t1, t2], [pm, theirs, pf], [(fl, theirs), (mine, theirs)], rfl, B4.cha, SqL.of zp, SqL.of upd_same, .cons B4.pub (.cons B4.oth (.cons B4.fpp .nil)),
      .cons ⟨c, b, SqT.of z1, B4.fle, B4.oth⟩ (.cons ⟨a, b, SqT.of z2, B4.own, B4.oth⟩ .nil), (by show 0 < 3; decide), fun e => ?_, fun c' e H5 p5 s5 n5 q5 => ?_⟩
    · exact fun H' s' => r1 e H' (Keep.of_same (s4.trans s'))
    · have o5 := s5 _ _ B4.obj
      refine ⟨_, rfl, _, _, _, _, rfl, o5, T.cG, T.nG_chain, (by show 6 < 1000; decide), ?_⟩
      rw [gf_put_chain]
      refine r2 c' e _ p5 ?_ upd_same ((s4).free n5) ?_ (dhs_len _ _ _ (fold_mixed_len _ _ B.cha.2) e)
      · exact (Keep.of_same (s4.trans s5)).upd_in (.inl (List.mem_singleton_self _))
      · exact (upd_ne (ne_of q5 o5 (by intro z; cases z))).trans q5
end
section
variable {P : Program} {w : World} {K : PySem.W.Frag} {mg : Str → Option Value} {base : Heap} {C : Cs}
theorem two_le : 2 ≤ sizeLine := by rw [sizeLine_eq]; decide
theorem one_le : 1 ≤ sizeLine := by rw [sizeLine_eq]; decide
theorem three_le : 3 ≤ sizeLine := by rw [sizeLine_eq]; decide
abbrev st_Greeting_meet_second : Stmt := inClass (top 54) 3
theorem sc_Greeting_meet_second : FnScope ["self", "message", "public", "pairs"] ["self", "message"] (defScope st_Greeting_meet_second) := ⟨rfl, rfl, rfl, by decide +kernel, rfl, by decide +kernel, by decide +kernel⟩
theorem bd_Greeting_meet_second : BindsOf "meet_second" "Greeting.meet_second" st_Greeting_meet_second ["self", "message"] := fun _ _ _ _ _ _ us hl => match us, hl with | [_, _], _ => rfl
def spMeet2 (K : PySem.W.Frag) (C : Cs) : Sp := fun vs H Q E => ∃ (g dg a b c op fp ch m : Addr) (mine theirs fl pm pf chain msg : List UInt8), vs = [.ref g, .ref m] ∧ GrAt K C H g dg a b c op fp ch mine theirs fl pm pf chain ∧ H m = some (.lst (bv msg)) ∧ msg.length = 48 ∧
  (Sf83.dhs ([msg.take 32].foldl Sf83.mixed chain) [(fl, msg.take 32), (mine, msg.take 32)] = none → RaisK C.B E H [g]) ∧
  ∀ c', Sf83.dhs ([msg.take 32].foldl Sf83.mixed chain) [(fl, msg.take 32), (mine, msg.take 32)] = some c' → (Sf83.proof c' ≠ msg.drop 32 → RaisK C.B E H [g]) ∧ (Sf83.proof c' = msg.drop 32 → Chained C H g dg a b c op fp c' Q)
theorem ok_meet2 {f : Addr} {fd : FuncData} (F : Fun K "meet_second" "Greeting.meet_second" st_Greeting_meet_second f fd) (G : Glb mg) (T : Txt K mg C) (F_longer_chain : Fn1 P w K mg base "longer_chain" 7 ["chain", "publics", "pairs"] (spLonger K C))
    (F_check_proof : Fn1 P w K mg base "check_proof" 8 ["chain", "message"] (spCheck K C)) : FnOk P w K mg base (CX1 P w) 9 f fd ["self", "message"] (spMeet2 K C) := by
  refine F.ok1 sc_Greeting_meet_second (fun vs H Q E h => ?_) (fun cdv A outer s H vs Q E hr h => ?_)
  · obtain ⟨g, dg, a, b, c, op, fp, ch, m, mine, theirs, fl, pm, pf, chain, msg, rfl, _⟩ := h
    rfl
  · obtain ⟨g, dg, a, b, c, op, fp, ch, m, mine, theirs, fl, pm, pf, chain, msg, rfl, B, hm, lm, r1, r2⟩ := h
    refine ⟨_, (pss_cons (ps_set (i := 2) sc_Greeting_meet_second.nd rfl (Or.inl rfl) (pe_slice sl_list (pv 1) po_none (po_some (pe_gint G.ksize)))) (pss_cons (ps_set (i := 3) sc_Greeting_meet_second.nd rfl (Or.inl rfl) (pe_lst (pa_cons (pe_tup (pa_cons (pe_fld (pv 0) rfl) (pa_cons (pv 2) pa_nil))) (pa_cons (pe_tup (pa_cons (pe_fld (pv 0) rfl) (pa_cons (pv 2) pa_nil))) pa_nil)))) (pss_cons (ps_fld (pv 0) (pe_fnX F_longer_chain hr (by decide) (pass1 fun _ _ _ h => h) (pa_cons (pe_fld (pv 0) rfl) (pa_cons (pe_lst (pa_cons (pv 2) pa_nil)) (pa_cons (pv 3) pa_nil)))) rfl) (pss_one (ps_expr (pe_fnX F_check_proof hr (by decide) (pass1 fun _ _ _ h => h) (pa_cons (pe_fld (pv 0) rfl) (pa_cons (pv 1) pa_nil)))))))), ?_⟩
    refine ⟨_, rfl, _, rfl, m, _, rfl, SqL.of hm, fun p1 n1 => ?_⟩
    rw [show cutV (bv msg) none (some 32) = bv (msg.take 32) from (cut_xn _ 32).trans (bv_take _ 32)]
    have le : (msg.take 32).length = 32 := by rw [List.length_take]; omega
    generalize msg.take 32 = e at *
    have u1 := (Same.refl _).upd (o := .lst (bv e)) n1
    have B1 := B.same u1
    try dsimp only [L2.start, Z1, Z2, Z3, Z4, Z5, Z6, List.replicate, Z7, Z8, Nat.reduceAdd, Nat.reduceSub, Nat.zero_add]
    refine ⟨_, rfl, _, _, _, _, _, rfl, B1.obj, T.cG, T.nG_fleeting, gf_fleeting, _, rfl, two_le, fun t1 m1 => ?_⟩
    have u2 := (Same.refl _).upd (o := .tup [V.ref c, V.ref p1]) m1
    have B2 := B1.same u2
    refine ⟨_, rfl, _, _, _, _, _, rfl, B2.obj, T.cG, T.nG_own, gf_own, _, rfl, two_le, fun t2 m2 => ⟨two_le, fun p2 n2 => ?_⟩⟩
    have u3 := (Same.refl _).upd (o := .tup [V.ref a, V.ref p1]) m2
    have u4 := (Same.refl _).upd (o := .lst [V.ref t1, V.ref t2]) n2
    have B4 := (B2.same u3).same u4
    try dsimp only [L2.start, Z1, Z2, Z3, Z4, Z5, Z6, List.replicate, Z7, Z8, Nat.reduceAdd, Nat.reduceSub, Nat.zero_add]
    refine ⟨_, rfl, _, _, _, _, _, rfl, B4.obj, T.cG, T.nG_chain, gf_chain, _, rfl, one_le, fun p3 n3 => ?_⟩
    have u5 := (Same.refl _).upd (o := .lst [V.ref p1]) n3
    have B5 := B4.same u5
    have s5 := (((u1.trans u2).trans u3).trans u4).trans u5
    have hp : PubAt K _ p1 e := ⟨SqL.of (u5 _ _ (u4 _ _ (u3 _ _ (u2 _ _ upd_same)))), le⟩
    refine ⟨_, rfl, ch, p3, p2, chain, [p1], [t1, t2], [e], [(fl, e), (mine, e)], rfl, B5.cha, SqL.of upd_same, SqL.of (u5 _ _ upd_same), .cons hp .nil,
      .cons ⟨c, p1, SqT.of (u5 _ _ (u4 _ _ (u3 _ _ upd_same))), B5.fle, hp⟩ (.cons ⟨a, p1, SqT.of (u5 _ _ (u4 _ _ upd_same)), B5.own, hp⟩ .nil), (by show 0 < 1; decide), fun e0 => ?_, fun c' e0 H6 p6 s6 n6 q6 => ?_⟩
    · exact fun H' s' => r1 e0 H' (Keep.of_same (s5.trans s'))
    · have B6 := B5.same s6
      have lc' := dhs_len _ _ _ (fold_mixed_len _ _ B.cha.2) e0
      refine ⟨_, rfl, _, _, _, _, rfl, B6.obj, T.cG, T.nG_chain, (by show 6 < 1000; decide), ?_⟩
      rw [gf_put_chain]
      have B7 := B6.put q6 lc'
      have s6' := s5.trans s6
      have k7 := (Keep.of_same (A := [g]) s6').upd_in (a := g) (o := .ins C.G dg (gf (.ref a) (.ref b) (.ref c) (.ref op) (.ref fp) (.ref p6))) (.inl (List.mem_singleton_self _))
      have hm7 := (upd_ne (o := .ins C.G dg (gf (.ref a) (.ref b) (.ref c) (.ref op) (.ref fp) (.ref p6))) (ne_of (s6' _ _ hm) B6.obj (by intro z; cases z))).trans (s6' _ _ hm)
      refine ⟨_, rfl, _, _, _, _, _, rfl, B7.obj, T.cG, T.nG_chain, gf_chain, _, rfl, p6, m, c', msg, rfl, B7.cha, SqL.of hm7, fun hz H' s' => ?_, fun hz H' s' => ?_⟩
      · exact (r2 c' e0).1 hz H' (k7.trans_same s')
      · refine (r2 c' e0).2 hz H' p6 (k7.trans_same s') (s' _ _ B7.obj) (s5.free n6) (s' _ _ ?_) lc'
        exact (upd_ne (ne_of q6 B6.obj (by intro z; cases z))).trans q6
abbrev st_Greeting_meet_first : Stmt := inClass (top 54) 4
theorem sc_Greeting_meet_first : FnScope ["self", "message", "public", "publics", "pairs"] ["self", "message"] (defScope st_Greeting_meet_first) := ⟨rfl, rfl, rfl, by decide +kernel, rfl, by decide +kernel, by decide +kernel⟩
theorem bd_Greeting_meet_first : BindsOf "meet_first" "Greeting.meet_first" st_Greeting_meet_first ["self", "message"] := fun _ _ _ _ _ _ us hl => match us, hl with | [_, _], _ => rfl
def spMeet1 (K : PySem.W.Frag) (C : Cs) : Sp := fun vs H Q E => ∃ (g dg a b c op fp ch m : Addr) (mine theirs fl pm pf chain msg : List UInt8), vs = [.ref g, .ref m] ∧ GrAt K C H g dg a b c op fp ch mine theirs fl pm pf chain ∧ H m = some (.lst (bv msg)) ∧ msg.length = 48 ∧
  (Sf83.dhs ([theirs, pm, msg.take 32].foldl Sf83.mixed chain) [(mine, msg.take 32), (mine, theirs)] = none → RaisK C.B E H [g]) ∧
  ∀ c1, Sf83.dhs ([theirs, pm, msg.take 32].foldl Sf83.mixed chain) [(mine, msg.take 32), (mine, theirs)] = some c1 → (Sf83.proof c1 ≠ msg.drop 32 → RaisK C.B E H [g]) ∧ (Sf83.proof c1 = msg.drop 32 →
    (Sf83.dhs ([pf].foldl Sf83.mixed c1) [(fl, msg.take 32), (fl, theirs)] = none → RaisK C.B E H [g]) ∧
    ∀ c', Sf83.dhs ([pf].foldl Sf83.mixed c1) [(fl, msg.take 32), (fl, theirs)] = some c' → Chained C H g dg a b c op fp c' Q)
theorem ok_meet1 {f : Addr} {fd : FuncData} (F : Fun K "meet_first" "Greeting.meet_first" st_Greeting_meet_first f fd) (G : Glb mg) (T : Txt K mg C) (F_longer_chain : Fn1 P w K mg base "longer_chain" 7 ["chain", "publics", "pairs"] (spLonger K C))
    (F_check_proof : Fn1 P w K mg base "check_proof" 8 ["chain", "message"] (spCheck K C)) : FnOk P w K mg base (CX1 P w) 9 f fd ["self", "message"] (spMeet1 K C) := by
  refine F.ok1 sc_Greeting_meet_first (fun vs H Q E h => ?_) (fun cdv A outer s H vs Q E hr h => ?_)
  · obtain ⟨g, dg, a, b, c, op, fp, ch, m, mine, theirs, fl, pm, pf, chain, msg, rfl, _⟩ := h
    rfl
  · obtain ⟨g, dg, a, b, c, op, fp, ch, m, mine, theirs, fl, pm, pf, chain, msg, rfl, B, hm, lm, r1, r2⟩ := h
    refine ⟨_, (pss_cons (ps_set (i := 2) sc_Greeting_meet_first.nd rfl (Or.inl rfl) (pe_slice sl_list (pv 1) po_none (po_some (pe_gint G.ksize)))) (pss_cons (ps_set (i := 3) sc_Greeting_meet_first.nd rfl (Or.inl rfl) (pe_lst (pa_cons (pe_fld (pv 0) rfl) (pa_cons (pe_fld (pv 0) rfl) (pa_cons (pv 2) pa_nil))))) (pss_cons (ps_set (i := 4) sc_Greeting_meet_first.nd rfl (Or.inl rfl) (pe_lst (pa_cons (pe_tup (pa_cons (pe_fld (pv 0) rfl) (pa_cons (pv 2) pa_nil))) (pa_cons (pe_tup (pa_cons (pe_fld (pv 0) rfl) (pa_cons (pe_fld (pv 0) rfl) pa_nil))) pa_nil)))) (pss_cons (ps_fld (pv 0) (pe_fnX F_longer_chain hr (by decide) (pass1 fun _ _ _ h => h) (pa_cons (pe_fld (pv 0) rfl) (pa_cons (pv 3) (pa_cons (pv 4) pa_nil)))) rfl) (pss_cons (ps_expr (pe_fnX F_check_proof hr (by decide) (pass1 fun _ _ _ h => h) (pa_cons (pe_fld (pv 0) rfl) (pa_cons (pv 1) pa_nil)))) (pss_cons (ps_set (i := 4) sc_Greeting_meet_first.nd rfl (Or.inl rfl) (pe_lst (pa_cons (pe_tup (pa_cons (pe_fld (pv 0) rfl) (pa_cons (pv 2) pa_nil))) (pa_cons (pe_tup (pa_cons (pe_fld (pv 0) rfl) (pa_cons (pe_fld (pv 0) rfl) pa_nil))) pa_nil)))) (pss_one (ps_fld (pv 0) (pe_fnX F_longer_chain hr (by decide) (pass1 fun _ _ _ h => h) (pa_cons (pe_fld (pv 0) rfl) (pa_cons (pe_lst (pa_cons (pe_fld (pv 0) rfl) pa_nil)) (pa_cons (pv 4) pa_nil)))) rfl)))))))), ?_⟩
    refine ⟨_, rfl, _, rfl, m, _, rfl, SqL.of hm, fun p1 n1 => ?_⟩
    rw [show cutV (bv msg) none (some 32) = bv (msg.take 32) from (cut_xn _ 32).trans (bv_take _ 32)]
    have le : (msg.take 32).length = 32 := by rw [List.length_take]; omega
    generalize msg.take 32 = e at *
    have u1 := (Same.refl _).upd (o := .lst (bv e)) n1
    have B1 := B.same u1
    try dsimp only [L2.start, Z1, Z2, Z3, Z4, Z5, Z6, List.replicate, Z7, Z8, Nat.reduceAdd, Nat.reduceSub, Nat.zero_add]
    refine ⟨_, rfl, _, _, _, _, _, rfl, B1.obj, T.cG, T.nG_other, gf_other, _, rfl, _, _, _, _, _, rfl, B1.obj, T.cG, T.nG_own_public, gf_own_public, _, rfl, three_le, fun p2 n2 => ?_⟩
    have u2 := (Same.refl _).upd (o := .lst [V.ref b, V.ref op, V.ref p1]) n2
    have B2 := B1.same u2
    try dsimp only [L2.start, Z1, Z2, Z3, Z4, Z5, Z6, List.replicate, Z7, Z8, Nat.reduceAdd, Nat.reduceSub, Nat.zero_add]
    refine ⟨_, rfl, _, _, _, _, _, rfl, B2.obj, T.cG, T.nG_own, gf_own, _, rfl, two_le, fun t1 m1 => ?_⟩
    have u3 := (Same.refl _).upd (o := .tup [V.ref a, V.ref p1]) m1
    have B3 := B2.same u3
    refine ⟨_, rfl, _, _, _, _, _, rfl, B3.obj, T.cG, T.nG_own, gf_own, _, rfl, _, _, _, _, _, rfl, B3.obj, T.cG, T.nG_other, gf_other, two_le, fun t2 m2 => ⟨two_le, fun p3 n3 => ?_⟩⟩
    have u4 := (Same.refl _).upd (o := .tup [V.ref a, V.ref b]) m2
    have u5 := (Same.refl _).upd (o := .lst [V.ref t1, V.ref t2]) n3
    have B5 := (B3.same u4).same u5
    have s5 := (((u1.trans u2).trans u3).trans u4).trans u5
    have hp : PubAt K _ p1 e := ⟨SqL.of (u5 _ _ (u4 _ _ (u3 _ _ (u2 _ _ upd_same)))), le⟩
    try dsimp only [L2.start, Z1, Z2, Z3, Z4, Z5, Z6, List.replicate, Z7, Z8, Nat.reduceAdd, Nat.reduceSub, Nat.zero_add]
    refine ⟨_, rfl, _, _, _, _, _, rfl, B5.obj, T.cG, T.nG_chain, gf_chain, _, rfl, _, rfl, ch, p2, p3, chain, [b, op, p1], [t1, t2], [theirs, pm, e], [(mine, e), (mine, theirs)], rfl, B5.cha, SqL.of (u5 _ _ (u4 _ _ (u3 _ _ upd_same))), SqL.of upd_same, .cons B5.oth (.cons B5.pub (.cons hp .nil)),
      .cons ⟨a, p1, SqT.of (u5 _ _ (u4 _ _ upd_same)), B5.own, hp⟩ (.cons ⟨a, b, SqT.of (u5 _ _ upd_same), B5.own, B5.oth⟩ .nil), (by show 0 < 3; decide), fun e0 => ?_, fun c1 e0 H6 p6 s6 n6 q6 => ?_⟩
    · exact fun H' s' => r1 e0 H' (Keep.of_same (s5.trans s'))
    · have B6 := B5.same s6
      have lc1 := dhs_len _ _ _ (fold_mixed_len _ _ B.cha.2) e0
      refine ⟨_, rfl, _, _, _, _, rfl, B6.obj, T.cG, T.nG_chain, (by show 6 < 1000; decide), ?_⟩
      rw [gf_put_chain]
      have B7 := B6.put q6 lc1
      have s6' := s5.trans s6
      have k7 := (Keep.of_same (A := [g]) s6').upd_in (a := g) (o := .ins C.G dg (gf (.ref a) (.ref b) (.ref c) (.ref op) (.ref fp) (.ref p6))) (.inl (List.mem_singleton_self _))
      have hm7 := (upd_ne (o := .ins C.G dg (gf (.ref a) (.ref b) (.ref c) (.ref op) (.ref fp) (.ref p6))) (ne_of (s6' _ _ hm) B6.obj (by intro z; cases z))).trans (s6' _ _ hm)
      have hp7 := (hp.of s6).upd_ins (gs := gf (.ref a) (.ref b) (.ref c) (.ref op) (.ref fp) (.ref p6)) B6.obj
      refine ⟨_, rfl, _, _, _, _, _, rfl, B7.obj, T.cG, T.nG_chain, gf_chain, _, rfl, p6, m, c1, msg, rfl, B7.cha, SqL.of hm7, fun hz H' s' => ?_, fun hz H8 s8 => ?_⟩
      · exact (r2 c1 e0).1 hz H' (k7.trans_same s')
      · obtain ⟨r3, r4⟩ := (r2 c1 e0).2 hz
        have B8 := B7.same s8
        have k8 := k7.trans_same s8
        have hp8 := hp7.of s8
        try dsimp only [L2.start, Z1, Z2, Z3, Z4, Z5, Z6, List.replicate, Z7, Z8, Nat.reduceAdd, Nat.reduceSub, Nat.zero_add]
        refine ⟨_, rfl, _, _, _, _, _, rfl, B8.obj, T.cG, T.nG_fleeting, gf_fleeting, _, rfl, two_le, fun t3 m3 => ?_⟩
        have v1 := (Same.refl _).upd (o := .tup [V.ref c, V.ref p1]) m3
        have B9 := B8.same v1
        refine ⟨_, rfl, _, _, _, _, _, rfl, B9.obj, T.cG, T.nG_fleeting, gf_fleeting, _, rfl, _, _, _, _, _, rfl, B9.obj, T.cG, T.nG_other, gf_other, two_le, fun t4 m4 => ⟨two_le, fun p9 n9 => ?_⟩⟩
        have v2 := (Same.refl _).upd (o := .tup [V.ref c, V.ref b]) m4
        have v3 := (Same.refl _).upd (o := .lst [V.ref t3, V.ref t4]) n9
        have B11 := (B9.same v2).same v3
        try dsimp only [L2.start, Z1, Z2, Z3, Z4, Z5, Z6, List.replicate, Z7, Z8, Nat.reduceAdd, Nat.reduceSub, Nat.zero_add]
        refine ⟨_, rfl, _, _, _, _, _, rfl, B11.obj, T.cG, T.nG_chain, gf_chain, _, rfl, _, _, _, _, _, rfl, B11.obj, T.cG, T.nG_fleeting_public, gf_fleeting_public, one_le, fun p10 n10 => ?_⟩
        have v4 := (Same.refl _).upd (o := .lst [V.ref fp]) n10
        have B12 := B11.same v4
        have t12 := ((v1.trans v2).trans v3).trans v4
        have hp12 := hp8.of t12
        have k12 := k8.trans_same t12
        refine ⟨_, rfl, p6, p10, p9, c1, [fp], [t3, t4], [pf], [(fl, e), (fl, theirs)], rfl, B12.cha, SqL.of upd_same, SqL.of (v4 _ _ upd_same), .cons B12.fpp .nil,
          .cons ⟨c, p1, SqT.of (v4 _ _ (v3 _ _ (v2 _ _ upd_same))), B12.fle, hp12⟩ (.cons ⟨c, b, SqT.of (v4 _ _ (v3 _ _ upd_same)), B12.fle, B12.oth⟩ .nil), (by show 0 < 1; decide), fun e1 => ?_, fun c' e1 H13 p13 s13 n13 q13 => ?_⟩
        · exact fun H' s' => r3 e1 H' (k12.trans_same s')
        · have B13 := B12.same s13
          have k13 := k12.trans_same s13
          refine ⟨_, rfl, _, _, _, _, rfl, B13.obj, T.cG, T.nG_chain, (by show 6 < 1000; decide), ?_⟩
          rw [gf_put_chain]
          have hn13 : H p13 = none := by
            rcases k12.free n13 with z | z
            · exact z
            · rw [List.mem_singleton.mp z, B12.obj] at n13; cases n13
          refine r4 c' e1 _ p13 (k13.upd_in (.inl (List.mem_singleton_self _))) upd_same hn13 ?_ (dhs_len _ _ _ (fold_mixed_len _ _ lc1) e1)
          exact (upd_ne (ne_of q13 B13.obj (by intro z; cases z))).trans q13
end
theorem ifD {p A B : Prop} [Decidable p] (h1 : p → A) (h2 : ¬ p → B) : if decide p = true then A else B := by
  by_cases h : p
  · rw [if_pos (decide_eq_true h)]; exact h1 h
  · rw [if_neg (fun z => h (of_decide_eq_true z))]; exact h2 h
theorem ifN {p A B : Prop} [Decidable p] (h1 : ¬ p → A) (h2 : p → B) : if (!decide p) = true then A else B := by
  by_cases h : p
  · rw [decide_eq_true h]; exact iteF (h2 h)
  · rw [decide_eq_false h]; exact iteT (h1 h)
theorem ifE {x y : Int} {A B : Prop} (h1 : x = y → A) (h2 : x ≠ y → B) : if decide (V.int x = V.int y) = true then A else B :=
  ifD (fun z => h1 (V.int.inj z)) fun z => h2 fun e => z (by rw [e])
theorem ifU {x y : Int} {A B : Prop} (h1 : x ≠ y → A) (h2 : x = y → B) : if (!decide (V.int x = V.int y)) = true then A else B :=
  ifN (fun z => h1 fun e => z (by rw [e])) fun z => h2 (V.int.inj z)
theorem two_cons : ∀ {h : List UInt8}, 2 ≤ h.length → ∃ x y t, h = x :: y :: t
  | [], z => absurd z (by decide)
  | [_], z => absurd z (by show ¬ 2 ≤ 1; decide)
  | x :: y :: t, _ => ⟨x, y, t, rfl⟩
section
variable {P : Program} {w : World} {K : PySem.W.Frag} {mg : Str → Option Value} {base : Heap} {C : Cs}
abbrev st_key_of_way : Stmt := top 64
theorem sc_key_of_way : FnScope ["chain", "number"] ["chain", "number"] (defScope st_key_of_way) := ⟨rfl, rfl, rfl, by decide +kernel, rfl, by decide +kernel, by decide +kernel⟩
theorem bd_key_of_way : BindsOf "key_of_way" "key_of_way" st_key_of_way ["chain", "number"] := fun _ _ _ _ _ _ us hl => match us, hl with | [_, _], _ => rfl
def spKeyW (K : PySem.W.Frag) : Sp := fun vs H Q _ => ∃ (a : Addr) (ch : List UInt8) (n : Nat), vs = [.ref a, .int n] ∧ PubAt K H a ch ∧ RetL H (bv (Sf83.branch ch n)) Q
theorem ok_keyw {f : Addr} {fd : FuncData} (F : Fun K "key_of_way" "key_of_way" st_key_of_way f fd) (G : Glb mg) (F_mixed : Fn P w K mg base "mixed" 5 ["key", "row"] (spMixed K)) (F_bytes_of : Fn P w K mg base "bytes_of" 1 ["number", "size"] spBytes) : FnOk P w K mg base CX0 6 f fd ["chain", "number"] (spKeyW K) := by
  refine F.ok sc_key_of_way (fun vs H Q E h => ?_) (fun cdv A outer s H vs Q E hr h => ?_)
  · obtain ⟨a, ch, n, rfl, _⟩ := h
    rfl
  · obtain ⟨a, ch, n, rfl, hc, r⟩ := h
    refine ⟨_, (pss_one (ps_ret (pe_fn F_mixed hr (pa_cons (pv 0) (pa_cons (pe_fn F_bytes_of hr (pa_cons (pv 1) (pa_cons (pe_gint G.ksize) pa_nil))) pa_nil))))), ?_⟩
    refine ⟨_, rfl, _, rfl, n, 32, rfl, by decide, fun H1 p1 s1 n1 e1 => ?_⟩
    exact ⟨a, p1, ch, Sf83.le 32 n, rfl, s1.seq hc.1, SqL.of e1, hc.2, M.le_len _ _, r.of s1⟩
theorem branch_len (c : List UInt8) (n : Nat) : (Sf83.branch c n).length = 32 := M.mixed_len _ _
abbrev st_rest_size : Stmt := top 65
theorem sc_rest_size : FnScope ["head", "size"] ["head"] (defScope st_rest_size) := ⟨rfl, rfl, rfl, by decide +kernel, rfl, by decide +kernel, by decide +kernel⟩
theorem bd_rest_size : BindsOf "rest_size" "rest_size" st_rest_size ["head"] := fun _ _ _ _ _ _ us hl => match us, hl with | [_], _ => rfl
def recLen (h : List UInt8) : Nat := (h.headD 0).toNat * 256 + ((h.drop 1).headD 0).toNat
def spRest (K : PySem.W.Frag) (C : Cs) : Sp := fun vs H Q E => ∃ (a : Addr) (h : List UInt8), vs = [.ref a] ∧ SqL K H a (bv h) ∧ 2 ≤ h.length ∧ (recLen h < 17 ∨ 16401 < recLen h → Rais C.B E H) ∧ (17 ≤ recLen h → recLen h ≤ 16401 → Q (.int (recLen h : Nat)) H)
theorem ok_rest {f : Addr} {fd : FuncData} (F : Fun K "rest_size" "rest_size" st_rest_size f fd) (G : Glb mg) (T : Txt K mg C) : FnOk P w K mg base (CX1 P w) 1 f fd ["head"] (spRest K C) := by
  refine F.ok1 sc_rest_size (fun vs H Q E h => ?_) (fun cdv A outer s H vs Q E hr h => ?_)
  · obtain ⟨a, h, rfl, _⟩ := h
    rfl
  · obtain ⟨a, h, rfl, ha, hl, r1, r2⟩ := h
    obtain ⟨x, y, t, rfl⟩ := two_cons hl
    have hx := x.toNat_lt
    have hy := y.toNat_lt
    have er : recLen (x :: y :: t) = x.toNat * 256 + y.toNat := rfl
    rw [er] at r1 r2
    refine ⟨_, (pss_cons (ps_set (i := 1) sc_rest_size.nd rfl (Or.inl rfl) (pe_op op_add (pe_op op_mulB (pe_ix ix_list (pv 0) pe_int (fun _ _ => rfl)) pe_int) (pe_ix ix_list (pv 0) pe_int (fun _ _ => rfl)))) (pss_cons (ps_if (pw_or (pt_cmpR op_lt (pv 1) (pe_gint G.BESIDES_DATA) (nomark _)) (pw_or1 (pt_cmpR op_gt (pv 1) (pe_gint G.MOST_REST) (nomark _)))).pt (pss_one (ps_raise0 T.exc hr.hd)) pss_nil) (pss_one (ps_ret (pv 1))))), ?_⟩
    refine ⟨_, rfl, a, _, _, _, rfl, rfl, ha, atI_nat (j := 0) rfl, _, _, rfl, rfl, ⟨small_nat (by rw [Int.natAbs_natCast]; show x.toNat < _; omega), by decide +kernel⟩, _, rfl, a, _, _, _, rfl, rfl, ha, atI_nat (j := 1) rfl, _, _, rfl, rfl, ?_⟩
    try dsimp only [L2.start, Z1, Z2, Z3, Z4, Z5, Z6, List.replicate, Z7, Z8, Nat.reduceAdd, Nat.reduceSub, Nat.zero_add]
    have ev : ((x.toNat : Nat) : Int) * 256 + ((y.toNat : Nat) : Int) = ((x.toNat * 256 + y.toNat : Nat) : Int) := by omega
    rw [ev]
    generalize x.toNat * 256 + y.toNat = n at *
    refine ⟨_, rfl, _, _, rfl, rfl, _, rfl, ifD (fun z => iteT ?_) fun z => ?_⟩
    · exact r1 (.inl (by omega)) H (Same.refl H)
    · refine ⟨_, rfl, _, _, rfl, rfl, _, rfl, ifD (fun z2 => ?_) fun z2 => ?_⟩
      · exact r1 (.inr (by omega)) H (Same.refl H)
      · exact ⟨_, rfl, r2 (by omega) (by omega)⟩
abbrev st_check_content : Stmt := top 66
theorem sc_check_content : FnScope ["kind", "data"] ["kind", "data"] (defScope st_check_content) := ⟨rfl, rfl, rfl, by decide +kernel, rfl, by decide +kernel, by decide +kernel⟩
theorem bd_check_content : BindsOf "check_content" "check_content" st_check_content ["kind", "data"] := fun _ _ _ _ _ _ us hl => match us, hl with | [_, _], _ => rfl
def Good (k : Nat) (d : List UInt8) : Prop := (k = 0 ∧ d ≠ []) ∨ (k = 1 ∧ d = []) ∨ (k = 2 ∧ d = [])
def spContent (K : PySem.W.Frag) (C : Cs) : Sp := fun vs H Q E => ∃ (a : Addr) (k : Nat) (d : List UInt8), vs = [.int k, .ref a] ∧ SqL K H a (bv d) ∧ (¬ Good k d → Rais C.B E H) ∧ (Good k d → ∀ H', Same H H' → Q .non H')
theorem in_kinds (k : Nat) : inV (.int (k : Nat)) [.int 0, .int 1, .int 2] = decide (k < 3) := by
  show ((0 == (k : Int)) || ((1 == (k : Int)) || ((2 == (k : Int)) || false))) = _
  rw [Bool.eq_iff_iff]
  simp only [Bool.or_eq_true, beq_iff_eq, Bool.or_false, decide_eq_true_eq]
  omega
theorem ok_content {f : Addr} {fd : FuncData} (F : Fun K "check_content" "check_content" st_check_content f fd) (G : Glb mg) (T : Txt K mg C) : FnOk P w K mg base (CX1 P w) 1 f fd ["kind", "data"] (spContent K C) := by
  refine F.ok1 sc_check_content (fun vs H Q E h => ?_) (fun cdv A outer s H vs Q E hr h => ?_)
  · obtain ⟨a, k, d, rfl, _⟩ := h
    rfl
  · obtain ⟨a, k, d, rfl, ha, r1, r2⟩ := h
    refine ⟨_, (pss_cons (ps_if (pt_cmpR op_notIn_seq (pv 0) (pe_tup (pa_cons (pe_gint G.DATA_KIND) (pa_cons (pe_gint G.KEY_KIND) (pa_cons (pe_gint G.END_KIND) pa_nil)))) (by with_unfolding_all rfl)) (pss_one (ps_raise0 T.exc hr.hd)) pss_nil) (pss_one (ps_if (pt_cmpR op_ne (pe_cmpR op_eq (pv 0) (pe_gint G.DATA_KIND) (nomark _)) (pe_cmpR op_gt (pe_callB call_len_seq rfl G.len boot_len (pa_cons (pv 1) pa_nil)) pe_int (nomark _)) (nomark _)) (pss_one (ps_raise0 T.exc hr.hd)) pss_nil))), ?_⟩
    refine ⟨_, rfl, three_le, fun t ht => ⟨t, _, rfl, .inr (SqT.of upd_same), rfl, rfl, _, rfl, ?_⟩⟩
    have s1 := (Same.refl H).upd (o := .tup [V.int 0, V.int 1, V.int 2]) ht
    show if (!inV (.int (k : Nat)) [.int 0, .int 1, .int 2]) = true then _ else _
    rw [in_kinds]
    refine ifN (fun z => ?_) fun z => ?_
    · refine r1 (fun g => ?_) _ s1
      rcases g with g | g | g <;> omega
    · refine ⟨_, rfl, rfl, _, rfl, a, _, rfl, .inl (s1.seq ha), _, _, rfl, rfl, rfl, _, rfl, ?_⟩
      show if (!decide (V.bl (decide (V.int (k : Nat) = V.int 0)) = V.bl (decide (0 < ((bv d).length : Int))))) = true then _ else _
      have e1 : decide (V.int (k : Nat) = V.int 0) = decide (k = 0) := decide_eq_decide.mpr ⟨fun e => by have := V.int.inj e; omega, fun e => by rw [e]; rfl⟩
      have e2 : decide (0 < ((bv d).length : Int)) = decide (d ≠ []) := decide_eq_decide.mpr (by
        rw [bv_len]
        constructor
        · intro h e
          rw [e] at h
          exact absurd h (by decide)
        · intro h
          have := List.length_pos_iff.mpr h
          omega)
      rw [e1, e2]
      refine ifN (fun z2 => ?_) fun z2 => ?_
      · refine r1 (fun g => z2 ?_) _ s1
        rcases g with ⟨g, g'⟩ | ⟨g, g'⟩ | ⟨g, g'⟩
        · rw [decide_eq_true g, decide_eq_true g']
        · rw [decide_eq_false (by omega), decide_eq_false (by rw [g']; simp)]
        · rw [decide_eq_false (by omega), decide_eq_false (by rw [g']; simp)]
      · refine r2 ?_ _ s1
        have e3 := decide_eq_decide.mp (V.bl.inj z2)
        by_cases h0 : k = 0
        · exact .inl ⟨h0, e3.mp h0⟩
        · have h1 : d = [] := by
            by_cases h : d = []
            · exact h
            · exact absurd (e3.mpr h) h0
          have h2 : k = 1 ∨ k = 2 := by omega
          rcases h2 with h2 | h2
          · exact .inr (.inl ⟨h2, h1⟩)
          · exact .inr (.inr ⟨h2, h1⟩)
abbrev st_Way_init : Stmt := inClass (top 67) 0
theorem sc_Way_init : FnScope ["self", "key"] ["self", "key"] (defScope st_Way_init) := ⟨rfl, rfl, rfl, by decide +kernel, rfl, by decide +kernel, by decide +kernel⟩
theorem bd_Way_init : BindsOf "__init__" "Way.__init__" st_Way_init ["self", "key"] := fun _ _ _ _ _ _ us hl => match us, hl with | [_, _], _ => rfl
def spWInit (C : Cs) : Sp := fun vs H Q _ => ∃ (x dx k : Addr), vs = [.ref x, .ref k] ∧ H x = some (.ins C.W dx []) ∧ Q .non (upd H x (.ins C.W dx (wf (.ref k) (.int 0) (.int 0))))
theorem ok_winit {f : Addr} {fd : FuncData} (F : Fun K "__init__" "Way.__init__" st_Way_init f fd) (G : Glb mg) (T : Txt K mg C) : FnOk P w K mg base CX0 1 f fd ["self", "key"] (spWInit C) := by
  refine F.ok sc_Way_init (fun vs H Q E h => ?_) (fun cdv A outer s H vs Q E hr h => ?_)
  · obtain ⟨x, dx, k, rfl, _⟩ := h
    rfl
  · obtain ⟨x, dx, k, rfl, hx, r⟩ := h
    refine ⟨_, (pss_cons (ps_fld (pv 0) (pv 1) rfl) (pss_cons (ps_fld (pv 0) pe_int rfl) (pss_one (ps_fld (pv 0) pe_int rfl)))), ?_⟩
    refine ⟨_, rfl, _, rfl, x, _, dx, _, rfl, hx, T.cW, T.nW_key, (by decide), ?_⟩
    refine ⟨_, rfl, x, _, dx, _, rfl, upd_same, T.cW, T.nW_count, (putF_lt (by decide)), ?_⟩
    rw [upd_upd]
    refine ⟨_, rfl, x, _, dx, _, rfl, upd_same, T.cW, T.nW_new_keys, (putF_lt (putF_lt (by decide))), ?_⟩
    rw [upd_upd, wf_new]
    exact r
abbrev st_Way_nonce : Stmt := inClass (top 67) 1
theorem sc_Way_nonce : FnScope ["self"] ["self"] (defScope st_Way_nonce) := ⟨rfl, rfl, rfl, by decide +kernel, rfl, by decide +kernel, by decide +kernel⟩
theorem bd_Way_nonce : BindsOf "nonce" "Way.nonce" st_Way_nonce ["self"] := fun _ _ _ _ _ _ us hl => match us, hl with | [_], _ => rfl
def spNonce (C : Cs) : Sp := fun vs H Q _ => ∃ (x dx : Addr) (k n : V) (c : Nat), vs = [.ref x] ∧ H x = some (.ins C.W dx (wf k (.int (c : Nat)) n)) ∧ RetL H (bv (Sf83.nonce c)) Q
theorem ok_nonce {f : Addr} {fd : FuncData} (F : Fun K "nonce" "Way.nonce" st_Way_nonce f fd) (G : Glb mg) (T : Txt K mg C) (F_bytes_of : Fn P w K mg base "bytes_of" 1 ["number", "size"] spBytes) : FnOk P w K mg base CX0 2 f fd ["self"] (spNonce C) := by
  refine F.ok sc_Way_nonce (fun vs H Q E h => ?_) (fun cdv A outer s H vs Q E hr h => ?_)
  · obtain ⟨x, dx, k, n, c, rfl, _⟩ := h
    rfl
  · obtain ⟨x, dx, k, n, c, rfl, hx, r⟩ := h
    refine ⟨_, (pss_one (ps_ret (pe_op op_cat (pe_lst (pa_cons pe_int (pa_cons pe_int (pa_cons pe_int (pa_cons pe_int pa_nil))))) (pe_fn F_bytes_of hr (pa_cons (pe_fld (pv 0) rfl) (pa_cons pe_int pa_nil)))))), ?_⟩
    refine ⟨(by show 4 ≤ sizeLine; rw [sizeLine_eq]; decide), fun l hl => ?_⟩
    have s1 := (Same.refl H).upd (o := .lst [V.int 0, V.int 0, V.int 0, V.int 0]) hl
    refine ⟨_, rfl, _, _, _, _, _, rfl, (s1 _ _ hx), T.cW, T.nW_count, wf_count, c, 8, rfl, by decide, fun H2 p2 s2 n2 e2 => ?_⟩
    refine ⟨l, p2, _, _, rfl, rfl, s2 _ _ upd_same, e2, by rw [bv_len, M.le_len, sizeLine_eq]; show 4 + 8 ≤ _; decide, fun p3 n3 => ?_⟩
    have e : [V.int 0, V.int 0, V.int 0, V.int 0] ++ bv (Sf83.le 8 c) = bv (Sf83.nonce c) := by
      unfold Sf83.nonce
      rw [bv_app]
      rfl
    rw [e]
    exact r.new (s1.trans s2) n3
abbrev st_Way_step : Stmt := inClass (top 67) 4
theorem sc_Way_step : FnScope ["self", "kind"] ["self", "kind"] (defScope st_Way_step) := ⟨rfl, rfl, rfl, by decide +kernel, rfl, by decide +kernel, by decide +kernel⟩
theorem bd_Way_step : BindsOf "step" "Way.step" st_Way_step ["self", "kind"] := fun _ _ _ _ _ _ us hl => match us, hl with | [_, _], _ => rfl
def wayKey (k : Nat) (key : List UInt8) : List UInt8 := if k = 1 then Sf83.branch key 3 else key
def wayCount (k c : Nat) : Nat := if k = 1 then 0 else c + 1
def wayNew (k n : Nat) : Nat := if k = 1 then n + 1 else n
theorem wayKey_len {k : Nat} {key : List UInt8} (h : key.length = 32) : (wayKey k key).length = 32 := by
  unfold wayKey
  split
  · exact branch_len _ _
  · exact h
structure WayAt (C : Cs) (H : Hp) (x dx kl : Addr) (key : List UInt8) (c n : Nat) : Prop where
  obj : H x = some (.ins C.W dx (wf (.ref kl) (.int (c : Nat)) (.int (n : Nat))))
  key : H kl = some (.lst (bv key))
theorem WayAt.same {H H' : Hp} {x dx kl : Addr} {key : List UInt8} {c n : Nat} (A : WayAt C H x dx kl key c n) (s : Same H H') : WayAt C H' x dx kl key c n := ⟨s _ _ A.obj, s _ _ A.key⟩
def Stepped (C : Cs) (H : Hp) (x dx kl : Addr) (key : List UInt8) (c n k : Nat) (H' : Hp) (kl' : Addr) : Prop := Keep H H' [x] ∧ WayAt C H' x dx kl' (wayKey k key) (wayCount k c) (wayNew k n) ∧ (kl' = kl ∨ H kl' = none)
def spStep (C : Cs) : Sp := fun vs H Q _ => ∃ (x dx kl : Addr) (key : List UInt8) (c n k : Nat), vs = [.ref x, .int k] ∧ WayAt C H x dx kl key c n ∧ key.length = 32 ∧ ∀ H' kl', Stepped C H x dx kl key c n k H' kl' → Q .non H'
theorem ok_step {f : Addr} {fd : FuncData} (F : Fun K "step" "Way.step" st_Way_step f fd) (G : Glb mg) (T : Txt K mg C) (F_key_of_way : Fn P w K mg base "key_of_way" 6 ["chain", "number"] (spKeyW K)) : FnOk P w K mg base CX0 7 f fd ["self", "kind"] (spStep C) := by
  refine F.ok sc_Way_step (fun vs H Q E h => ?_) (fun cdv A outer s H vs Q E hr h => ?_)
  · obtain ⟨x, dx, kl, key, c, n, k, rfl, _⟩ := h
    rfl
  · obtain ⟨x, dx, kl, key, c, n, k, rfl, B, lk, r⟩ := h
    refine ⟨_, (pss_cons (ps_fld (pv 0) (pe_op op_add (pe_fld (pv 0) rfl) pe_int) rfl) (pss_one (ps_if (pt_cmpR op_eq (pv 1) (pe_gint G.KEY_KIND) (nomark _)) (pss_cons (ps_fld (pv 0) (pe_fn F_key_of_way hr (pa_cons (pe_fld (pv 0) rfl) (pa_cons (pe_gint G.NEXT_KEY) pa_nil))) rfl) (pss_cons (ps_fld (pv 0) pe_int rfl) (pss_one (ps_fld (pv 0) (pe_op op_add (pe_fld (pv 0) rfl) pe_int) rfl)))) pss_nil))), ?_⟩
    refine ⟨_, rfl, _, _, _, _, _, rfl, B.obj, T.cW, T.nW_count, wf_count, _, _, rfl, rfl, _, rfl, _, _, _, _, rfl, B.obj, T.cW, T.nW_count, (by show 3 < 1000; decide), ?_⟩
    rw [wf_put_count]
    have ec : ((c : Nat) : Int) + 1 = ((c + 1 : Nat) : Int) := by omega
    try dsimp only [L2.start, Z1, Z2, Z3, Z4, Z5, Z6, List.replicate, Z7, Z8, Nat.reduceAdd, Nat.reduceSub, Nat.zero_add]
    rw [ec]
    have k1 : Keep H (upd H x (.ins C.W dx (wf (.ref kl) (.int ((c + 1 : Nat) : Int)) (.int (n : Nat))))) [x] := Keep.of_upd
    have hk1 := (upd_ne (o := .ins C.W dx (wf (.ref kl) (.int ((c + 1 : Nat) : Int)) (.int (n : Nat)))) (ne_of B.key B.obj (by intro z; cases z))).trans B.key
    refine ⟨_, rfl, rfl, _, rfl, ifE (fun z => ?_) fun z => ?_⟩
    · have z : k = 1 := by omega
      subst z
      refine ⟨_, rfl, _, _, _, _, _, rfl, upd_same, T.cW, T.nW_key, wf_key, kl, key, 3, rfl, ⟨SqL.of hk1, lk⟩, fun H2 p2 s2 n2 e2 => ?_⟩
      have x2 := s2 _ _ upd_same
      rw [← show wayKey 1 key = Sf83.branch key 3 from if_pos rfl] at e2
      refine ⟨_, rfl, _, _, _, _, rfl, x2, T.cW, T.nW_key, (by show 3 < 1000; decide), ?_⟩
      rw [wf_put_key]
      refine ⟨_, rfl, _, _, _, _, rfl, upd_same, T.cW, T.nW_count, (by show 3 < 1000; decide), ?_⟩
      rw [wf_put_count, upd_upd]
      refine ⟨_, rfl, _, _, _, _, _, rfl, upd_same, T.cW, T.nW_new_keys, wf_new_keys, _, _, rfl, rfl, _, rfl, _, _, _, _, rfl, upd_same, T.cW, T.nW_new_keys, (by show 3 < 1000; decide), ?_⟩
      rw [wf_put_new_keys, upd_upd]
      have en : ((n : Nat) : Int) + 1 = ((n + 1 : Nat) : Int) := by omega
      try dsimp only [L2.start, Z1, Z2, Z3, Z4, Z5, Z6, List.replicate, Z7, Z8, Nat.reduceAdd, Nat.reduceSub, Nat.zero_add]
      rw [en]
      refine r _ p2 ⟨(k1.trans_same s2).upd_in (.inl (List.mem_singleton_self _)), ⟨upd_same, ?_⟩, .inr ?_⟩
      · exact (upd_ne (ne_of e2 x2 (by intro z; cases z))).trans e2
      · rcases k1.free n2 with z | z
        · exact z
        · rw [List.mem_singleton.mp z, upd_same] at n2; cases n2
    · have z : k ≠ 1 := by omega
      refine r _ kl ⟨k1, ⟨?_, ?_⟩, .inl rfl⟩
      · unfold wayCount wayNew
        rw [if_neg z, if_neg z]
        exact upd_same
      · unfold wayKey
        rw [if_neg z]
        exact hk1
abbrev st_Way_forget : Stmt := inClass (top 67) 5
theorem sc_Way_forget : FnScope ["self"] ["self"] (defScope st_Way_forget) := ⟨rfl, rfl, rfl, by decide +kernel, rfl, by decide +kernel, by decide +kernel⟩
theorem bd_Way_forget : BindsOf "forget" "Way.forget" st_Way_forget ["self"] := fun _ _ _ _ _ _ us hl => match us, hl with | [_], _ => rfl
def spForget (C : Cs) : Sp := fun vs H Q _ => ∃ (x dx : Addr) (k c n : V), vs = [.ref x] ∧ H x = some (.ins C.W dx (wf k c n)) ∧ ∀ H' kl', Keep H H' [x] → H' x = some (.ins C.W dx (wf (.ref kl') (.int 0) n)) → H kl' = none → H' kl' = some (.lst []) → Q .non H'
theorem ok_forget {f : Addr} {fd : FuncData} (F : Fun K "forget" "Way.forget" st_Way_forget f fd) (G : Glb mg) (T : Txt K mg C) : FnOkU P w K mg base 1 f fd ["self"] (spForget C) := by
  refine F.okU sc_Way_forget (fun vs H Q E h => ?_) (fun cdv A outer s H vs Q E hr h => ?_)
  · obtain ⟨x, dx, k, c, n, rfl, _⟩ := h
    rfl
  · obtain ⟨x, dx, k, c, n, rfl, hx, r⟩ := h
    refine ⟨_, (pss_cons (ps_fld (pv 0) (pe_lst pa_nil) rfl) (pss_one (ps_fld (pv 0) pe_int rfl))), ?_⟩
    refine ⟨Nat.zero_le _, fun p hp => ?_⟩
    have s1 := (Same.refl H).upd (o := .lst []) hp
    have x1 := s1 _ _ hx
    refine ⟨_, rfl, _, _, _, _, rfl, x1, T.cW, T.nW_key, (by show 3 < 1000; decide), ?_⟩
    rw [wf_put_key]
    refine ⟨_, rfl, _, _, _, _, rfl, upd_same, T.cW, T.nW_count, (by show 3 < 1000; decide), ?_⟩
    rw [wf_put_count, upd_upd]
    refine r _ p ((Keep.of_same s1).upd_in (.inl (List.mem_singleton_self _))) upd_same hp ?_
    exact (upd_ne (ne_of (upd_same (H := H) (a := p) (o := .lst [])) x1 (by intro z; cases z))).trans upd_same
end
def recHead (n : Nat) : List UInt8 := [UInt8.ofNat ((n + 17) / 256), UInt8.ofNat ((n + 17) % 256)]
def recBytes (key : List UInt8) (c k : Nat) (data : List UInt8) : List UInt8 := recHead data.length ++ Sf83.sealOf key (Sf83.nonce c) (recHead data.length) (UInt8.ofNat k :: data)
theorem byte_val {n : Nat} (h : n < 256) : (UInt8.ofNat n).toNat = n := by
  rw [UInt8.toNat_ofNat']
  exact Nat.mod_eq_of_lt h
theorem bv_cons (c : UInt8) (b : List UInt8) : bv (c :: b) = V.int (c.toNat : Int) :: bv b := rfl
theorem recHead_bv {n : Nat} (h : n ≤ 16384) : [V.int (((n : Int) + 17) / 256), V.int (((n : Int) + 17) % 256)] = bv (recHead n) := by
  unfold recHead
  rw [bv_cons, bv_cons, byte_val (by omega), byte_val (by omega), show ((n : Int) + 17) / 256 = (((n + 17) / 256 : Nat) : Int) by omega, show ((n : Int) + 17) % 256 = (((n + 17) % 256 : Nat) : Int) by omega]
  rfl
theorem recBytes_len (key : List UInt8) (c k : Nat) (data : List UInt8) : (recBytes key c k data).length = data.length + 19 := by
  unfold recBytes
  rw [List.length_append, M.sealOf_len]
  show 2 + (data.length + 1 + 16) = data.length + 19
  omega
theorem nonce_len (c : Nat) : (Sf83.nonce c).length = 12 := by
  unfold Sf83.nonce
  rw [List.length_append, M.le_len]
  rfl
theorem opened_len {k c a b x : List UInt8} (h : Sf83.opened k c a b = some x) : x.length + 16 = b.length := by
  by_cases hl : b.length < 16
  · unfold Sf83.opened at h
    rw [if_pos hl] at h
    cases h
  · have op : Sf83.opened k c a b = if Sf83.tag k c a (b.take (b.length - 16)) = b.drop (b.length - 16) then some (Sf83.turnedBy k c (b.take (b.length - 16))) else none := by
      unfold Sf83.opened
      rw [if_neg hl]
    rw [op] at h
    generalize Sf83.tag k c a (b.take (b.length - 16)) = tg at h
    by_cases ht : tg = b.drop (b.length - 16)
    · rw [if_pos ht] at h
      have h := Option.some.inj h
      rw [← h, M.turnedBy_len, List.length_take]
      omega
    · rw [if_neg ht] at h
      cases h
section
variable {P : Program} {w : World} {K : PySem.W.Frag} {mg : Str → Option Value} {base : Heap} {C : Cs}
abbrev st_Way_record : Stmt := inClass (top 67) 2
theorem sc_Way_record : FnScope ["self", "kind", "data", "size", "head", "whole"] ["self", "kind", "data"] (defScope st_Way_record) := ⟨rfl, rfl, rfl, by decide +kernel, rfl, by decide +kernel, by decide +kernel⟩
theorem bd_Way_record : BindsOf "record" "Way.record" st_Way_record ["self", "kind", "data"] := fun _ _ _ _ _ _ us hl => match us, hl with | [_, _, _], _ => rfl
def spRecord (C : Cs) : Sp := fun vs H Q _ => ∃ (x dx kl d : Addr) (key data : List UInt8) (c n k : Nat), vs = [.ref x, .int k, .ref d] ∧ WayAt C H x dx kl key c n ∧ key.length = 32 ∧ H d = some (.lst (bv data)) ∧ data.length ≤ 16384 ∧ k < 256 ∧
  ∀ H' kl' p, Stepped C H x dx kl key c n k H' kl' → H p = none → H' p = some (.lst (bv (recBytes key c k data))) → p ≠ kl' → Q (.ref p) H'
theorem ok_record {f : Addr} {fd : FuncData} (F : Fun K "record" "Way.record" st_Way_record f fd) (G : Glb mg) (T : Txt K mg C) (F_sealed : Fn P w K mg base "sealed" 6 ["key", "nonce", "along", "row"] (spSeal K)) (F_nonce : Mt P w K mg base C.W "nonce" 2 ["self"] (spNonce C))
    (F_step : Mt P w K mg base C.W "step" 7 ["self", "kind"] (spStep C)) : FnOk P w K mg base CX0 8 f fd ["self", "kind", "data"] (spRecord C) := by
  refine F.ok sc_Way_record (fun vs H Q E h => ?_) (fun cdv A outer s H vs Q E hr h => ?_)
  · obtain ⟨x, dx, kl, d, key, data, c, n, k, rfl, _⟩ := h
    rfl
  · obtain ⟨x, dx, kl, d, key, data, c, n, k, rfl, B, lk, hd, ld, hk, r⟩ := h
    refine ⟨_, (pss_cons (ps_set (i := 3) sc_Way_record.nd rfl (Or.inl rfl) (pe_op op_add (pe_callB call_len_seq rfl G.len boot_len (pa_cons (pv 2) pa_nil)) (pe_gint G.BESIDES_DATA))) (pss_cons (ps_set (i := 4) sc_Way_record.nd rfl (Or.inl rfl) (pe_lst (pa_cons (pe_op op_fdiv (pv 3) pe_int) (pa_cons (pe_op op_mod (pv 3) pe_int) pa_nil)))) (pss_cons (ps_set (i := 5) sc_Way_record.nd rfl (Or.inl rfl) (pe_op op_cat (pv 4) (pe_fn F_sealed hr (pa_cons (pe_fld (pv 0) rfl) (pa_cons (pe_mtX0 (pv 0) T.cW F_nonce hr (by decide) pass0) (pa_cons (pv 4) (pa_cons (pe_op op_cat (pe_lst (pa_cons (pv 1) pa_nil)) (pv 2)) pa_nil))))))) (pss_cons (ps_expr (pe_mtX (pv 0) T.cW F_step hr (by decide) pass0 (pa_cons (pv 1) pa_nil))) (pss_one (ps_ret (pv 5))))))), ?_⟩
    refine ⟨_, rfl, d, _, rfl, .inl (SqL.of hd), _, _, rfl, rfl, ?_⟩
    try dsimp only [L2.start, Z1, Z2, Z3, Z4, Z5, Z6, List.replicate, Z7, Z8, Nat.reduceAdd, Nat.reduceSub, Nat.zero_add]
    rw [bv_len]
    refine ⟨_, rfl, _, _, rfl, rfl, ⟨by decide, by decide⟩, _, rfl, _, _, rfl, rfl, (by show (0 : Int) < 256; decide), two_le, fun p1 n1 => ?_⟩
    try dsimp only [L2.start, Z1, Z2, Z3, Z4, Z5, Z6, List.replicate, Z7, Z8, Nat.reduceAdd, Nat.reduceSub, Nat.zero_add]
    rw [recHead_bv ld]
    have u1 := (Same.refl _).upd (o := .lst (bv (recHead data.length))) n1
    have B1 := B.same u1
    refine ⟨_, rfl, _, rfl, _, _, _, _, _, rfl, B1.obj, T.cW, T.nW_key, wf_key, _, rfl, _, _, _, rfl, B1.obj, wf_no (by decide +kernel), x, dx, _, _, c, rfl, B1.obj, fun H2 p2 u2 n2 e2 => ?_⟩
    have B2 := B1.same u2
    refine ⟨_, rfl, _, rfl, one_le, fun p3 n3 => ?_⟩
    have u3 := (Same.refl _).upd (o := .lst [V.int (k : Nat)]) n3
    refine ⟨_, rfl, p3, d, _, _, rfl, rfl, upd_same, u3 _ _ (u2 _ _ (u1 _ _ hd)), by rw [bv_len, sizeLine_eq]; show 1 + data.length ≤ _; omega, fun p4 n4 => ?_⟩
    have ek : [V.int (k : Nat)] ++ bv data = bv (UInt8.ofNat k :: data) := by
      rw [bv_cons, byte_val hk]
      rfl
    rw [ek]
    have u4 := (Same.refl _).upd (o := .lst (bv (UInt8.ofNat k :: data))) n4
    have B4 := (B2.same u3).same u4
    have h1 := u4 _ _ (u3 _ _ (u2 _ _ (upd_same (H := H) (a := p1) (o := .lst (bv (recHead data.length))))))
    refine ⟨kl, p2, p1, p4, key, Sf83.nonce c, recHead data.length, _, rfl, SqL.of B4.key, SqL.of (u4 _ _ (u3 _ _ e2)), h1, SqL.of upd_same, lk, nonce_len c, (by show 2 ≤ 200000; decide), (by show data.length + 1 ≤ 200000; omega), fun H5 p5 u5 n5 e5 => ?_⟩
    refine ⟨p1, p5, _, _, rfl, rfl, u5 _ _ h1, e5, by rw [bv_len, bv_len, M.sealOf_len, sizeLine_eq]; show 2 + (data.length + 1 + 16) ≤ _; omega, fun p6 n6 => ?_⟩
    rw [← bv_app]
    have er : recHead data.length ++ Sf83.sealOf key (Sf83.nonce c) (recHead data.length) (UInt8.ofNat k :: data) = recBytes key c k data := rfl
    rw [er]
    have u6 := (Same.refl _).upd (o := .lst (bv (recBytes key c k data))) n6
    have B6 := (B4.same u5).same u6
    have s6 := ((((u1.trans u2).trans u3).trans u4).trans u5).trans u6
    have e6 := upd_same (H := H5) (a := p6) (o := .lst (bv (recBytes key c k data)))
    try dsimp only [L2.start, Z1, Z2, Z3, Z4, Z5, Z6, List.replicate, Z7, Z8, Nat.reduceAdd, Nat.reduceSub, Nat.zero_add]
    refine ⟨_, rfl, _, _, _, rfl, B6.obj, wf_no (by decide +kernel), _, rfl, x, dx, kl, key, c, n, k, rfl, B6, lk, fun H7 kl' st => ?_⟩
    obtain ⟨k7, B7, f7⟩ := st
    have e7 := k7 _ _ e6 (fun z => ne_of e6 B6.obj (by intro z; cases z) (List.mem_singleton.mp z))
    refine ⟨_, rfl, r _ kl' p6 ⟨fun b u e hb => k7 b u (s6 b u e) hb, B7, ?_⟩ ?_ e7 ?_⟩
    · rcases f7 with z | z
      · exact .inl z
      · exact .inr (s6.free z)
    · exact ((((u1.trans u2).trans u3).trans u4).trans u5).free n6
    · rcases f7 with z | z
      · rw [z]
        have q := (((((u1.trans u2).trans u3).trans u4).trans u5)) _ _ B.key
        exact fun e => (ne_of_none q n6) e.symm
      · exact ne_of_none e6 z
abbrev st_Way_content : Stmt := inClass (top 67) 3
theorem sc_Way_content : FnScope ["self", "head", "rest", "inner"] ["self", "head", "rest"] (defScope st_Way_content) := ⟨rfl, rfl, rfl, by decide +kernel, rfl, by decide +kernel, by decide +kernel⟩
theorem bd_Way_content : BindsOf "content" "Way.content" st_Way_content ["self", "head", "rest"] := fun _ _ _ _ _ _ us hl => match us, hl with | [_, _, _], _ => rfl
def spInner (K : PySem.W.Frag) (C : Cs) : Sp := fun vs H Q E => ∃ (x dx kl hd rs : Addr) (key h rest : List UInt8) (c n : Nat), vs = [.ref x, .ref hd, .ref rs] ∧ WayAt C H x dx kl key c n ∧ key.length = 32 ∧ H hd = some (.lst (bv h)) ∧ h.length ≤ 2 ∧ SqL K H rs (bv rest) ∧ 17 ≤ rest.length ∧ rest.length ≤ 16401 ∧
  (Sf83.opened key (Sf83.nonce c) h rest = none → Rais C.B E H) ∧
  ∀ k d, Sf83.opened key (Sf83.nonce c) h rest = some (k :: d) → (¬ Good k.toNat d → Rais C.B E H) ∧
    (Good k.toNat d → ∀ H' kl' p, Stepped C H x dx kl key c n k.toNat H' kl' → H p = none → H' p = some (.lst (bv (k :: d))) → p ≠ kl' → Q (.ref p) H')
theorem ok_inner {f : Addr} {fd : FuncData} (F : Fun K "content" "Way.content" st_Way_content f fd) (G : Glb mg) (T : Txt K mg C) (F_opened : Fn P w K mg base "opened" 6 ["key", "nonce", "along", "row"] (spOpen K)) (F_nonce : Mt P w K mg base C.W "nonce" 2 ["self"] (spNonce C))
    (F_step : Mt P w K mg base C.W "step" 7 ["self", "kind"] (spStep C)) (F_check_content : Fn1 P w K mg base "check_content" 1 ["kind", "data"] (spContent K C)) : FnOk P w K mg base (CX1 P w) 8 f fd ["self", "head", "rest"] (spInner K C) := by
  refine F.ok1 sc_Way_content (fun vs H Q E h => ?_) (fun cdv A outer s H vs Q E hr h => ?_)
  · obtain ⟨x, dx, kl, hd, rs, key, h, rest, c, n, rfl, _⟩ := h
    rfl
  · obtain ⟨x, dx, kl, hd, rs, key, h, rest, c, n, rfl, B, lk, hh, lh, hs, l1, l2, r1, r2⟩ := h
    refine ⟨_, (pss_cons (ps_set (i := 3) sc_Way_content.nd rfl (Or.inl rfl) (pe_fn F_opened hr (pa_cons (pe_fld (pv 0) rfl) (pa_cons (pe_mtX0 (pv 0) T.cW F_nonce hr (by decide) pass0) (pa_cons (pv 1) (pa_cons (pv 2) pa_nil)))))) (pss_cons (ps_if (pt_cmpR op_isN (pv 3) pe_non (nomark _)) (pss_one (ps_raise0 T.exc hr.hd)) pss_nil) (pss_cons (ps_expr (pe_fnX F_check_content hr (by decide) (pass1 fun _ _ _ h => h) (pa_cons (pe_ix ix_list (pv 3) pe_int (fun _ _ => rfl)) (pa_cons (pe_slice sl_list (pv 3) (po_some pe_int) po_none) pa_nil)))) (pss_cons (ps_expr (pe_mtX (pv 0) T.cW F_step hr (by decide) pass0 (pa_cons (pe_ix ix_list (pv 3) pe_int (fun _ _ => rfl)) pa_nil))) (pss_one (ps_ret (pv 3))))))), ?_⟩
    refine ⟨_, rfl, _, _, _, _, _, rfl, B.obj, T.cW, T.nW_key, wf_key, _, rfl, _, _, _, rfl, B.obj, wf_no (by decide +kernel), x, dx, _, _, c, rfl, B.obj, fun H1 p1 u1 n1 e1 => ?_⟩
    have hol : ∀ y, Sf83.opened key (Sf83.nonce c) h rest = some y → y.length + 16 = rest.length := fun y => opened_len
    refine ⟨_, rfl, _, rfl, kl, p1, hd, rs, key, Sf83.nonce c, h, rest, rfl, SqL.of (u1 _ _ B.key), SqL.of e1, u1 _ _ hh, u1.seq hs, lk, nonce_len c, by omega, by omega, fun e H2 u2 => ?_, fun b e H2 p2 u2 n2 e2 => ?_⟩
    · try dsimp only [L2.start, Z1, Z2, Z3, Z4, Z5, Z6, List.replicate, Z7, Z8, Nat.reduceAdd, Nat.reduceSub, Nat.zero_add]
      refine ⟨_, rfl, rfl, _, rfl, ifD (fun _ => ?_) fun z => absurd rfl z⟩
      exact r1 e H2 (u1.trans u2)
    · have hb := hol b e
      generalize Sf83.opened key (Sf83.nonce c) h rest = op at *
      subst e
      cases b with
      | nil => exact absurd hb (by show ¬ 0 + 16 = _; omega)
      | cons k d =>
        obtain ⟨r3, r4⟩ := r2 k d rfl
        have s2 := u1.trans u2
        try dsimp only [L2.start, Z1, Z2, Z3, Z4, Z5, Z6, List.replicate, Z7, Z8, Nat.reduceAdd, Nat.reduceSub, Nat.zero_add]
        refine ⟨_, rfl, rfl, _, rfl, ifD (fun z => nomatch z) fun _ => ?_⟩
        refine ⟨_, rfl, p2, _, _, _, rfl, rfl, SqL.of e2, atI_nat (j := 0) rfl, _, rfl, _, rfl, p2, _, rfl, SqL.of e2, fun p3 n3 => ?_⟩
        rw [show cutV (bv (k :: d)) (some 1) none = bv d from (cut_nx _ 1).trans rfl]
        have u3 := (Same.refl _).upd (o := .lst (bv d)) n3
        refine ⟨p3, k.toNat, d, rfl, SqL.of upd_same, fun g H4 u4 => ?_, fun g H4 u4 => ?_⟩
        · exact r3 g H4 ((s2.trans u3).trans u4)
        · have s4 := (s2.trans u3).trans u4
          have B4 := B.same s4
          have e4 := u4 _ _ (u3 _ _ e2)
          refine ⟨_, rfl, _, _, _, rfl, B4.obj, wf_no (by decide +kernel), _, rfl, p2, _, _, _, rfl, rfl, SqL.of e4, atI_nat (j := 0) rfl, x, dx, kl, key, c, n, k.toNat, rfl, B4, lk, fun H7 kl' st => ?_⟩
          obtain ⟨k7, B7, f7⟩ := st
          have e7 := k7 _ _ e4 (fun z => ne_of e4 B4.obj (by intro z; cases z) (List.mem_singleton.mp z))
          refine ⟨_, rfl, r4 g _ kl' p2 ⟨fun b u e hb => k7 b u (s4 b u e) hb, B7, ?_⟩ (u1.free n2) e7 ?_⟩
          · rcases f7 with z | z
            · exact .inl z
            · exact .inr (s4.free z)
          · rcases f7 with z | z
            · rw [z]
              exact fun e => (ne_of_none (u1 _ _ B.key) n2) e.symm
            · exact ne_of_none e4 z
end
end S
namespace L2
open PySem PySem.Spec PyProof.Rows
section
variable {H H' : Hp} {A L : List (Addr × HO)} {p : Addr} {o : HO}
theorem Cells.perm {L' : List (Addr × HO)} (c : Cells H L) (h : L.Perm L') : Cells H L' := ⟨(h.map Prod.fst).nodup_iff.mp c.1, fun x hx => c.2 x (h.mem_iff.mpr hx)⟩
theorem Cells.mid (c : Cells H (A ++ L)) (s : Same H H') (n : H p = none) (e : H' p = some o) : Cells H' (A ++ (p, o) :: L) := Cells.perm (c.push s n e) List.perm_middle.symm
theorem Cells.midU (c : Cells H (A ++ L)) (o : HO) (n : H p = none) : Cells (upd H p o) (A ++ (p, o) :: L) := Cells.mid c ((Same.refl H).upd n) n upd_same
theorem Cells.unmid (c : Cells H (A ++ (p, o) :: L)) : Cells H (A ++ L) := c.sub (List.Sublist.append (List.Sublist.refl A) (List.sublist_cons_self _ _))
theorem Cells.back (c : Cells H (A ++ L)) : Cells H L := c.sub (List.sublist_append_right _ _)
theorem Cells.memb (c : Cells H (A ++ (p, o) :: L)) : H p = some o := c.2 (p, o) (List.mem_append_right _ (List.mem_cons_self ..))
end
end L2
namespace S
open PySem PySem.Spec PyProof.Rows L2
structure EA where
  e : Addr
  de : Addr
  o : Addr
  ar : Addr
  rd : Addr
  ks : Addr
  sw : Addr
  dsw : Addr
  kr : Addr
  rw : Addr
  drw : Addr
  gr : V
def eObj (C : Cs) (x : EA) (s : Sf83.S) : HO := .ins C.E x.de (ef (.int (Sf83.phaseOf s.phase : Nat)) (.bl s.first) (.int (s.every : Nat)) x.gr (.ref x.o) (.ref x.ar) (.ref x.rd) (.bl s.over) (.bl s.ended) (.ref x.sw) (.ref x.rw))
def eCells (C : Cs) (x : EA) (s : Sf83.S) : List (Addr × HO) :=
  [(x.e, eObj C x s), (x.o, .lst (bv s.out)), (x.ar, .lst (bv s.kept)), (x.rd, .lst (bv s.plain)), (x.ks, .lst (bv s.sendKey)), (x.sw, .ins C.W x.dsw (wf (.ref x.ks) (.int (s.sendCount : Nat)) (.int (s.renewed : Nat)))),
    (x.kr, .lst (bv s.takeKey)), (x.rw, .ins C.W x.drw (wf (.ref x.kr) (.int (s.takeCount : Nat)) (.int (s.renewals : Nat))))]
end S
namespace L2
open PySem PySem.Spec PyProof.Rows S
section
variable {C : Cs} {H : Hp} {x : EA} {s : Sf83.S} {L : List (Addr × HO)}
theorem Cells.e (c : Cells H (eCells C x s ++ L)) : H x.e = some (.ins C.E x.de (ef (.int (Sf83.phaseOf s.phase : Nat)) (.bl s.first) (.int (s.every : Nat)) x.gr (.ref x.o) (.ref x.ar) (.ref x.rd) (.bl s.over) (.bl s.ended) (.ref x.sw) (.ref x.rw))) := c.at_ 0 rfl
theorem Cells.o (c : Cells H (eCells C x s ++ L)) : H x.o = some (.lst (bv s.out)) := c.at_ 1 rfl
theorem Cells.ar (c : Cells H (eCells C x s ++ L)) : H x.ar = some (.lst (bv s.kept)) := c.at_ 2 rfl
theorem Cells.rd (c : Cells H (eCells C x s ++ L)) : H x.rd = some (.lst (bv s.plain)) := c.at_ 3 rfl
theorem Cells.sw (c : Cells H (eCells C x s ++ L)) : WayAt C H x.sw x.dsw x.ks s.sendKey s.sendCount s.renewed := ⟨c.at_ 5 rfl, c.at_ 4 rfl⟩
theorem Cells.rw (c : Cells H (eCells C x s ++ L)) : WayAt C H x.rw x.drw x.kr s.takeKey s.takeCount s.renewals := ⟨c.at_ 7 rfl, c.at_ 6 rfl⟩
end
end L2
namespace S
open PySem PySem.Spec PyProof.Rows L2
def av (l : List Int) : List V := l.map V.int
theorem av_nums (b : List UInt8) : av ((Sf83.nums b).map fun (n : Nat) => (n : Int)) = bv b := (bv_ints b).symm
def refS (s : Sf83.S) : Int := if s.phase = .broken then -3 else if s.phase ≠ .sealed ∨ s.over = true then -4 else 0
def refA (s : Sf83.S) : Int := if refS s = 0 ∧ 262144 < s.out.length then -5 else refS s
def refH (s : Sf83.S) : Int := if s.phase = .shut then -4 else if s.phase = .broken then -3 else 0
theorem ph_broken (s : Sf83.S) : ((Sf83.phaseOf s.phase : Nat) : Int) = 3 ↔ s.phase = .broken := by cases h : s.phase <;> simp [Sf83.phaseOf]
theorem ph_sealed (s : Sf83.S) : ((Sf83.phaseOf s.phase : Nat) : Int) = 2 ↔ s.phase = .sealed := by cases h : s.phase <;> simp [Sf83.phaseOf]
theorem ph_waits (s : Sf83.S) : ((Sf83.phaseOf s.phase : Nat) : Int) = 1 ↔ s.phase = .waits := by cases h : s.phase <;> simp [Sf83.phaseOf]
theorem ph_shut (s : Sf83.S) : ((Sf83.phaseOf s.phase : Nat) : Int) = 0 ↔ s.phase = .shut := by cases h : s.phase <;> simp [Sf83.phaseOf]
section
variable {P : Program} {w : World} {K : PySem.W.Frag} {mg : Str → Option Value} {base : Heap} {C : Cs}
abbrev st_End_refusal_to_send : Stmt := inClass (top 80) 4
theorem sc_End_refusal_to_send : FnScope ["self"] ["self"] (defScope st_End_refusal_to_send) := ⟨rfl, rfl, rfl, by decide +kernel, rfl, by decide +kernel, by decide +kernel⟩
theorem bd_End_refusal_to_send : BindsOf "refusal_to_send" "End.refusal_to_send" st_End_refusal_to_send ["self"] := fun _ _ _ _ _ _ us hl => match us, hl with | [_], _ => rfl
def spRef (C : Cs) (f : Sf83.S → Int) : Sp := fun vs H Q _ => ∃ (x : EA) (s : Sf83.S) (L : List (Addr × HO)), vs = [.ref x.e] ∧ Cells H (eCells C x s ++ L) ∧ Q (.int (f s)) H
theorem ok_refS {f : Addr} {fd : FuncData} (F : Fun K "refusal_to_send" "End.refusal_to_send" st_End_refusal_to_send f fd) (G : Glb mg) (T : Txt K mg C) : FnOk P w K mg base CX0 1 f fd ["self"] (spRef C refS) := by
  refine F.ok sc_End_refusal_to_send (fun vs H Q E h => ?_) (fun cdv A outer s H vs Q E hr h => ?_)
  · obtain ⟨x, s, L, rfl, _⟩ := h
    rfl
  · obtain ⟨x, st, L, rfl, c, r⟩ := h
    refine ⟨_, (pss_cons (ps_if (pt_cmpR op_eq (pe_fld (pv 0) rfl) (pe_gint G.BROKEN) (nomark _)) (pss_one (ps_ret (pe_gint G.IS_BROKEN))) pss_nil) (pss_cons (ps_if (PW.pt (pw_or (pt_cmpR op_ne (pe_fld (pv 0) rfl) (pe_gint G.SEALED) (nomark _)) (pw_or1 (pt_truth (pe_fld (pv 0) rfl) (fun _ => rfl))))) (pss_one (ps_ret (pe_gint G.NOT_NOW))) pss_nil) (pss_one (ps_ret pe_int)))), ?_⟩
    refine ⟨_, rfl, _, _, _, _, _, rfl, c.e, T.cE, T.nE_phase, ef_phase, rfl, _, rfl, ifE (fun z => ?_) fun z => ?_⟩
    · have e : refS st = -3 := if_pos ((ph_broken st).mp z)
      rw [e] at r
      exact r
    · have n1 : ¬ st.phase = .broken := fun y => z ((ph_broken st).mpr y)
      refine ⟨_, rfl, _, _, _, _, _, rfl, c.e, T.cE, T.nE_phase, ef_phase, rfl, _, rfl, ifU (fun z2 => iteT ?_) fun z2 => ?_⟩
      · have e : refS st = -4 := by
          unfold refS
          rw [if_neg n1, if_pos (.inl fun y => z2 ((ph_sealed st).mpr y))]
        rw [e] at r
        exact r
      · refine ⟨_, rfl, _, _, _, _, _, rfl, c.e, T.cE, T.nE_end_sent, ef_end_sent, _, rfl, ?_⟩
        cases ho : st.over with
        | true =>
          have e : refS st = -4 := by
            unfold refS
            rw [if_neg n1, if_pos (.inr ho)]
          rw [e] at r
          exact iteT r
        | false =>
          have e : refS st = 0 := by
            unfold refS
            rw [if_neg n1, if_neg (by rw [ho, (ph_sealed st).mp z2]; simp)]
          rw [e] at r
          exact iteF r
abbrev st_End_refusal_to_add : Stmt := inClass (top 80) 5
theorem sc_End_refusal_to_add : FnScope ["self", "refusal"] ["self"] (defScope st_End_refusal_to_add) := ⟨rfl, rfl, rfl, by decide +kernel, rfl, by decide +kernel, by decide +kernel⟩
theorem bd_End_refusal_to_add : BindsOf "refusal_to_add" "End.refusal_to_add" st_End_refusal_to_add ["self"] := fun _ _ _ _ _ _ us hl => match us, hl with | [_], _ => rfl
theorem ok_refA {f : Addr} {fd : FuncData} (F : Fun K "refusal_to_add" "End.refusal_to_add" st_End_refusal_to_add f fd) (G : Glb mg) (T : Txt K mg C) (F_refusal_to_send : Mt P w K mg base C.E "refusal_to_send" 1 ["self"] (spRef C refS)) : FnOk P w K mg base CX0 2 f fd ["self"] (spRef C refA) := by
  refine F.ok sc_End_refusal_to_add (fun vs H Q E h => ?_) (fun cdv A outer s H vs Q E hr h => ?_)
  · obtain ⟨x, s, L, rfl, _⟩ := h
    rfl
  · obtain ⟨x, st, L, rfl, c, r⟩ := h
    refine ⟨_, (pss_cons (ps_set (i := 1) sc_End_refusal_to_add.nd rfl (Or.inl rfl) (pe_mtX0 (pv 0) T.cE F_refusal_to_send hr (by decide) pass0)) (pss_cons (ps_if (PW.pt (pw_and (pt_cmpR op_eq (pv 1) pe_int (nomark _)) (pw_and1 (pt_cmpR op_gt (pe_callB call_len_seq rfl G.len boot_len (pa_cons (pe_fld (pv 0) rfl) pa_nil)) (pe_gint G.MOST_HELD) (nomark _))))) (pss_one (ps_ret (pe_gint G.TOO_MUCH))) pss_nil) (pss_one (ps_ret (pv 1))))), ?_⟩
    refine ⟨_, rfl, _, _, _, rfl, c.e, ef_no (by decide +kernel), x, st, L, rfl, c, ?_⟩
    try dsimp only [L2.start, Z1, Z2, Z3, Z4, Z5, Z6, List.replicate, Z7, Z8, Nat.reduceAdd, Nat.reduceSub, Nat.zero_add]
    refine ⟨_, rfl, rfl, _, rfl, ifE (fun z => ?_) fun z => ?_⟩
    · refine ⟨_, rfl, _, _, _, _, _, rfl, c.e, T.cE, T.nE_outgoing, ef_outgoing, _, _, rfl, .inl (SqL.of c.o), _, _, rfl, rfl, _, rfl, ifD (fun z2 => ?_) fun z2 => ?_⟩
      · have e : refA st = -5 := if_pos ⟨z, by rw [bv_len] at z2; omega⟩
        rw [e] at r
        exact r
      · have e : refA st = refS st := if_neg fun y => z2 (by rw [bv_len]; omega)
        rw [e] at r
        exact ⟨_, rfl, r⟩
    · have e : refA st = refS st := if_neg fun y => z y.1
      rw [e] at r
      exact iteF ⟨_, rfl, r⟩
abbrev st_End_refusal_to_hear : Stmt := inClass (top 80) 13
theorem sc_End_refusal_to_hear : FnScope ["self"] ["self"] (defScope st_End_refusal_to_hear) := ⟨rfl, rfl, rfl, by decide +kernel, rfl, by decide +kernel, by decide +kernel⟩
theorem bd_End_refusal_to_hear : BindsOf "refusal_to_hear" "End.refusal_to_hear" st_End_refusal_to_hear ["self"] := fun _ _ _ _ _ _ us hl => match us, hl with | [_], _ => rfl
theorem ok_refH {f : Addr} {fd : FuncData} (F : Fun K "refusal_to_hear" "End.refusal_to_hear" st_End_refusal_to_hear f fd) (G : Glb mg) (T : Txt K mg C) : FnOk P w K mg base CX0 1 f fd ["self"] (spRef C refH) := by
  refine F.ok sc_End_refusal_to_hear (fun vs H Q E h => ?_) (fun cdv A outer s H vs Q E hr h => ?_)
  · obtain ⟨x, s, L, rfl, _⟩ := h
    rfl
  · obtain ⟨x, st, L, rfl, c, r⟩ := h
    refine ⟨_, (pss_cons (ps_if (pt_cmpR op_eq (pe_fld (pv 0) rfl) (pe_gint G.NOT_OPENED) (nomark _)) (pss_one (ps_ret (pe_gint G.NOT_NOW))) pss_nil) (pss_cons (ps_if (pt_cmpR op_eq (pe_fld (pv 0) rfl) (pe_gint G.BROKEN) (nomark _)) (pss_one (ps_ret (pe_gint G.IS_BROKEN))) pss_nil) (pss_one (ps_ret pe_int)))), ?_⟩
    refine ⟨_, rfl, _, _, _, _, _, rfl, c.e, T.cE, T.nE_phase, ef_phase, rfl, _, rfl, ifE (fun z => ?_) fun z => ?_⟩
    · have e : refH st = -4 := if_pos ((ph_shut st).mp z)
      rw [e] at r
      exact r
    · have n1 : ¬ st.phase = .shut := fun y => z ((ph_shut st).mpr y)
      refine ⟨_, rfl, _, _, _, _, _, rfl, c.e, T.cE, T.nE_phase, ef_phase, rfl, _, rfl, ifE (fun z2 => ?_) fun z2 => ?_⟩
      · have e : refH st = -3 := by
          unfold refH
          rw [if_neg n1, if_pos ((ph_broken st).mp z2)]
        rw [e] at r
        exact r
      · have e : refH st = 0 := by
          unfold refH
          rw [if_neg n1, if_neg (fun y => z2 ((ph_broken st).mpr y))]
        rw [e] at r
        exact r
abbrev st_End_cut : Stmt := inClass (top 80) 14
theorem sc_End_cut : FnScope ["self", "refusal"] ["self"] (defScope st_End_cut) := ⟨rfl, rfl, rfl, by decide +kernel, rfl, by decide +kernel, by decide +kernel⟩
theorem bd_End_cut : BindsOf "cut" "End.cut" st_End_cut ["self"] := fun _ _ _ _ _ _ us hl => match us, hl with | [_], _ => rfl
def cutOf (s : Sf83.S) : Int := if s.phase = .shut then -4 else if s.phase = .broken then -3 else if s.ended = true then 1 else 0
theorem ok_cut {f : Addr} {fd : FuncData} (F : Fun K "cut" "End.cut" st_End_cut f fd) (G : Glb mg) (T : Txt K mg C) (F_refusal_to_hear : Mt P w K mg base C.E "refusal_to_hear" 1 ["self"] (spRef C refH)) : FnOk P w K mg base CX0 2 f fd ["self"] (spRef C cutOf) := by
  refine F.ok sc_End_cut (fun vs H Q E h => ?_) (fun cdv A outer s H vs Q E hr h => ?_)
  · obtain ⟨x, s, L, rfl, _⟩ := h
    rfl
  · obtain ⟨x, st, L, rfl, c, r⟩ := h
    refine ⟨_, (pss_cons (ps_set (i := 1) sc_End_cut.nd rfl (Or.inl rfl) (pe_mtX0 (pv 0) T.cE F_refusal_to_hear hr (by decide) pass0)) (pss_cons (ps_if (pt_cmpR op_ne (pv 1) pe_int (nomark _)) (pss_one (ps_ret (pv 1))) pss_nil) (pss_one (ps_ret (pe_ifExp (pt_truth (pe_fld (pv 0) rfl) (fun _ => rfl)) pe_int pe_int))))), ?_⟩
    refine ⟨_, rfl, _, _, _, rfl, c.e, ef_no (by decide +kernel), x, st, L, rfl, c, ?_⟩
    try dsimp only [L2.start, Z1, Z2, Z3, Z4, Z5, Z6, List.replicate, Z7, Z8, Nat.reduceAdd, Nat.reduceSub, Nat.zero_add]
    have ec : cutOf st = if refH st ≠ 0 then refH st else if st.ended = true then 1 else 0 := by
      unfold cutOf refH
      by_cases h1 : st.phase = .shut
      · rw [if_pos h1, if_pos h1]; rfl
      · rw [if_neg h1, if_neg h1]
        by_cases h2 : st.phase = .broken
        · rw [if_pos h2, if_pos h2]; rfl
        · rw [if_neg h2, if_neg h2]; rfl
    refine ⟨_, rfl, rfl, _, rfl, ifU (fun z => ?_) fun z => ?_⟩
    · rw [if_pos z] at ec
      rw [ec] at r
      exact ⟨_, rfl, r⟩
    · rw [if_neg (fun y => y z)] at ec
      refine ⟨_, rfl, _, _, _, _, _, rfl, c.e, T.cE, T.nE_end_came, ef_end_came, _, rfl, ?_⟩
      cases ho : st.ended with
      | true =>
        rw [ho, if_pos rfl] at ec
        rw [ec] at r
        exact iteT r
      | false =>
        rw [ho, if_neg Bool.false_ne_true] at ec
        rw [ec] at r
        exact iteF r
abbrev st_may_be_most : Stmt := top 79
theorem sc_may_be_most : FnScope ["most"] ["most"] (defScope st_may_be_most) := ⟨rfl, rfl, rfl, by decide +kernel, rfl, by decide +kernel, by decide +kernel⟩
theorem bd_may_be_most : BindsOf "may_be_most" "may_be_most" st_may_be_most ["most"] := fun _ _ _ _ _ _ us hl => match us, hl with | [_], _ => rfl
def spMost : Sp := fun vs H Q _ => ∃ m : Int, vs = [.int m] ∧ Q (.bl (Sf83.within m 0 65536)) H
theorem ok_most {f : Addr} {fd : FuncData} (F : Fun K "may_be_most" "may_be_most" st_may_be_most f fd) (G : Glb mg) : FnOk P w K mg base CX0 1 f fd ["most"] spMost := by
  refine F.ok sc_may_be_most (fun vs H Q E h => ?_) (fun cdv A outer s H vs Q E hr h => ?_)
  · obtain ⟨m, rfl, _⟩ := h
    rfl
  · obtain ⟨m, rfl, r⟩ := h
    refine ⟨_, (pss_one (ps_ret (pe_and (pe_cmpR op_le pe_int (pv 0) (nomark _)) (pe_one (pe_cmpR op_le (pv 0) (pe_gint G.MOST_BYTES) (nomark _)))))), ?_⟩
    unfold Sf83.within at r
    refine ⟨_, rfl, _, _, rfl, rfl, _, rfl, ?_⟩
    by_cases h : (0 : Int) ≤ m
    · rw [decide_eq_true (show ((0 : Nat) : Int) ≤ m from h), Bool.true_and] at r
      rw [decide_eq_true h]
      exact iteT ⟨_, rfl, _, _, rfl, rfl, r⟩
    · rw [decide_eq_false (show ¬ ((0 : Nat) : Int) ≤ m from h), Bool.false_and] at r
      rw [decide_eq_false h]
      exact iteF r
def AnsL (C : Cs) (e : Addr) (gr : V) (s : Sf83.S) (L : List (Addr × HO)) (l : List Int) (Q : VK) : Prop := ∀ (H' : Hp) (x' : EA) (p : Addr), x'.e = e → x'.gr = gr → Cells H' (eCells C x' s ++ (p, .lst (av l)) :: L) → Q (.ref p) H'
abbrev st_End_take : Stmt := inClass (top 80) 11
theorem sc_End_take : FnScope ["self", "most", "taken"] ["self", "most"] (defScope st_End_take) := ⟨rfl, rfl, rfl, by decide +kernel, rfl, by decide +kernel, by decide +kernel⟩
theorem bd_End_take : BindsOf "take" "End.take" st_End_take ["self", "most"] := fun _ _ _ _ _ _ us hl => match us, hl with | [_, _], _ => rfl
def spTake (C : Cs) : Sp := fun vs H Q _ => ∃ (x : EA) (s : Sf83.S) (L : List (Addr × HO)) (m : Int), vs = [.ref x.e, .int m] ∧ Cells H (eCells C x s ++ L) ∧ s.out.length ≤ 10000000 ∧ AnsL C x.e x.gr (Sf83.does s (.take m)).1 L (Sf83Neutral.listOf (Sf83.does s (.take m)).2) Q
theorem ok_take {f : Addr} {fd : FuncData} (F : Fun K "take" "End.take" st_End_take f fd) (G : Glb mg) (T : Txt K mg C) (F_may_be_most : Fn P w K mg base "may_be_most" 1 ["most"] spMost) : FnOk P w K mg base CX0 2 f fd ["self", "most"] (spTake C) := by
  refine F.ok sc_End_take (fun vs H Q E h => ?_) (fun cdv A outer s H vs Q E hr h => ?_)
  · obtain ⟨x, s, L, m, rfl, _⟩ := h
    rfl
  · obtain ⟨x, st, L, m, rfl, c, lo, r⟩ := h
    refine ⟨_, (pss_cons (ps_if (pt_not (pt_truth (pe_fn F_may_be_most hr (pa_cons (pv 1) pa_nil)) (fun _ => rfl))) (pss_one (ps_ret (pe_lst (pa_cons (pe_gint G.UNFIT) pa_nil)))) pss_nil) (pss_cons (ps_set (i := 2) sc_End_take.nd rfl (Or.inl rfl) (pe_slice sl_list (pe_fld (pv 0) rfl) po_none (po_some (pv 1)))) (pss_cons (ps_fld (pv 0) (pe_slice sl_list (pe_fld (pv 0) rfl) (po_some (pv 1)) po_none) rfl) (pss_one (ps_ret (pe_op op_cat (pe_lst (pa_cons (pe_callB call_len_seq rfl G.len boot_len (pa_cons (pv 2) pa_nil)) pa_nil)) (pv 2))))))), ?_⟩
    refine ⟨_, rfl, m, rfl, _, rfl, ?_⟩
    cases hw : Sf83.within m 0 65536 with
    | false =>
      have e : Sf83.does st (.take m) = (st, Sf83.says (-1)) := by
        unfold Sf83.does
        exact if_pos hw
      rw [e] at r
      refine iteT ⟨one_le, fun p hp => ?_⟩
      exact r _ x p rfl rfl (Cells.midU c _ hp)
    | true =>
      have e : Sf83.does st (.take m) = ({ st with out := st.out.drop m.toNat }, ⟨(st.out.take m.toNat).length, Sf83.nums (st.out.take m.toNat)⟩) := by
        unfold Sf83.does
        exact if_neg (by rw [show Sf83.LONG = 65536 from rfl, hw]; decide)
      rw [e] at r
      have hm : 0 ≤ m := by
        unfold Sf83.within at hw
        rw [Bool.and_eq_true] at hw
        exact of_decide_eq_true hw.1
      obtain ⟨n, rfl⟩ : ∃ n : Nat, m = (n : Int) := ⟨m.toNat, by omega⟩
      rw [Int.toNat_natCast] at r
      refine iteF ?_
      refine ⟨_, rfl, _, _, _, _, _, rfl, c.e, T.cE, T.nE_outgoing, ef_outgoing, _, rfl, _, rfl, _, _, rfl, SqL.of c.o, fun p1 n1 => ?_⟩
      rw [cut_xn, bv_take]
      have u1 := (Same.refl _).upd (o := .lst (bv (st.out.take n))) n1
      have c1 := c.same u1
      try dsimp only [L2.start, Z1, Z2, Z3, Z4, Z5, Z6, List.replicate, Z7, Z8, Nat.reduceAdd, Nat.reduceSub, Nat.zero_add]
      refine ⟨_, rfl, _, _, _, _, _, rfl, c1.e, T.cE, T.nE_outgoing, ef_outgoing, _, rfl, _, rfl, _, _, rfl, SqL.of c1.o, fun p2 n2 => ?_⟩
      rw [cut_nx, bv_drop]
      have u2 := (Same.refl _).upd (o := .lst (bv (st.out.drop n))) n2
      have c2 := c1.same u2
      have e1 := u2 _ _ (upd_same (H := H) (a := p1) (o := .lst (bv (st.out.take n))))
      refine ⟨_, rfl, _, _, _, _, rfl, c2.e, T.cE, T.nE_outgoing, (by show 11 < 1000; decide), ?_⟩
      rw [ef_put_outgoing]
      have c3 : Cells _ (eCells C { x with o := p2 } { st with out := st.out.drop n } ++ L) := (c2.repl 1 (.inl (c1.notin n2)) upd_same).putU 0 (eObj C { x with o := p2 } { st with out := st.out.drop n }) rfl
      have e3 := (upd_ne (o := eObj C { x with o := p2 } { st with out := st.out.drop n }) (ne_of e1 c2.e (by intro z; cases z))).trans e1
      refine ⟨_, rfl, p1, _, rfl, .inl (SqL.of e3), one_le, fun p4 n4 => ?_⟩
      have u4 := (Same.refl _).upd (o := .lst [V.int ((bv (st.out.take n)).length : Nat)]) n4
      refine ⟨_, rfl, p4, p1, _, _, rfl, rfl, upd_same, u4 _ _ e3, by rw [bv_len, List.length_take, sizeLine_eq]; show 1 + _ ≤ _; omega, fun p5 n5 => ?_⟩
      refine r _ { x with o := p2 } p5 rfl rfl ?_
      have ea : [V.int ((bv (st.out.take n)).length : Nat)] ++ bv (st.out.take n) = av (Sf83Neutral.listOf ⟨(st.out.take n).length, Sf83.nums (st.out.take n)⟩) := by
        rw [bv_len, ← av_nums]
        rfl
      rw [ea]
      exact Cells.midU (c3.same u4) _ n5
abbrev st_End_read : Stmt := inClass (top 80) 12
theorem sc_End_read : FnScope ["self", "most", "data"] ["self", "most"] (defScope st_End_read) := ⟨rfl, rfl, rfl, by decide +kernel, rfl, by decide +kernel, by decide +kernel⟩
theorem bd_End_read : BindsOf "read" "End.read" st_End_read ["self", "most"] := fun _ _ _ _ _ _ us hl => match us, hl with | [_, _], _ => rfl
def spRead (C : Cs) : Sp := fun vs H Q _ => ∃ (x : EA) (s : Sf83.S) (L : List (Addr × HO)) (m : Int), vs = [.ref x.e, .int m] ∧ Cells H (eCells C x s ++ L) ∧ s.plain.length ≤ 10000000 ∧ AnsL C x.e x.gr (Sf83.does s (.read m)).1 L (Sf83Neutral.listOf (Sf83.does s (.read m)).2) Q
theorem ok_read {f : Addr} {fd : FuncData} (F : Fun K "read" "End.read" st_End_read f fd) (G : Glb mg) (T : Txt K mg C) (F_may_be_most : Fn P w K mg base "may_be_most" 1 ["most"] spMost) : FnOk P w K mg base CX0 2 f fd ["self", "most"] (spRead C) := by
  refine F.ok sc_End_read (fun vs H Q E h => ?_) (fun cdv A outer s H vs Q E hr h => ?_)
  · obtain ⟨x, s, L, m, rfl, _⟩ := h
    rfl
  · obtain ⟨x, st, L, m, rfl, c, lo, r⟩ := h
    refine ⟨_, (pss_cons (ps_if (pt_not (pt_truth (pe_fn F_may_be_most hr (pa_cons (pv 1) pa_nil)) (fun _ => rfl))) (pss_one (ps_ret (pe_lst (pa_cons (pe_gint G.UNFIT) pa_nil)))) pss_nil) (pss_cons (ps_set (i := 2) sc_End_read.nd rfl (Or.inl rfl) (pe_slice sl_list (pe_fld (pv 0) rfl) po_none (po_some (pv 1)))) (pss_cons (ps_fld (pv 0) (pe_slice sl_list (pe_fld (pv 0) rfl) (po_some (pv 1)) po_none) rfl) (pss_one (ps_ret (pe_op op_cat (pe_lst (pa_cons (pe_callB call_len_seq rfl G.len boot_len (pa_cons (pv 2) pa_nil)) pa_nil)) (pv 2))))))), ?_⟩
    refine ⟨_, rfl, m, rfl, _, rfl, ?_⟩
    cases hw : Sf83.within m 0 65536 with
    | false =>
      have e : Sf83.does st (.read m) = (st, Sf83.says (-1)) := by
        unfold Sf83.does
        exact if_pos hw
      rw [e] at r
      refine iteT ⟨one_le, fun p hp => ?_⟩
      exact r _ x p rfl rfl (Cells.midU c _ hp)
    | true =>
      have e : Sf83.does st (.read m) = ({ st with plain := st.plain.drop m.toNat }, ⟨(st.plain.take m.toNat).length, Sf83.nums (st.plain.take m.toNat)⟩) := by
        unfold Sf83.does
        exact if_neg (by rw [show Sf83.LONG = 65536 from rfl, hw]; decide)
      rw [e] at r
      have hm : 0 ≤ m := by
        unfold Sf83.within at hw
        rw [Bool.and_eq_true] at hw
        exact of_decide_eq_true hw.1
      obtain ⟨n, rfl⟩ : ∃ n : Nat, m = (n : Int) := ⟨m.toNat, by omega⟩
      rw [Int.toNat_natCast] at r
      refine iteF ?_
      refine ⟨_, rfl, _, _, _, _, _, rfl, c.e, T.cE, T.nE_readable, ef_readable, _, rfl, _, rfl, _, _, rfl, SqL.of c.rd, fun p1 n1 => ?_⟩
      rw [cut_xn, bv_take]
      have u1 := (Same.refl _).upd (o := .lst (bv (st.plain.take n))) n1
      have c1 := c.same u1
      try dsimp only [L2.start, Z1, Z2, Z3, Z4, Z5, Z6, List.replicate, Z7, Z8, Nat.reduceAdd, Nat.reduceSub, Nat.zero_add]
      refine ⟨_, rfl, _, _, _, _, _, rfl, c1.e, T.cE, T.nE_readable, ef_readable, _, rfl, _, rfl, _, _, rfl, SqL.of c1.rd, fun p2 n2 => ?_⟩
      rw [cut_nx, bv_drop]
      have u2 := (Same.refl _).upd (o := .lst (bv (st.plain.drop n))) n2
      have c2 := c1.same u2
      have e1 := u2 _ _ (upd_same (H := H) (a := p1) (o := .lst (bv (st.plain.take n))))
      refine ⟨_, rfl, _, _, _, _, rfl, c2.e, T.cE, T.nE_readable, (by show 11 < 1000; decide), ?_⟩
      rw [ef_put_readable]
      have c3 : Cells _ (eCells C { x with rd := p2 } { st with plain := st.plain.drop n } ++ L) := (c2.repl 3 (.inl (c1.notin n2)) upd_same).putU 0 (eObj C { x with rd := p2 } { st with plain := st.plain.drop n }) rfl
      have e3 := (upd_ne (o := eObj C { x with rd := p2 } { st with plain := st.plain.drop n }) (ne_of e1 c2.e (by intro z; cases z))).trans e1
      refine ⟨_, rfl, p1, _, rfl, .inl (SqL.of e3), one_le, fun p4 n4 => ?_⟩
      have u4 := (Same.refl _).upd (o := .lst [V.int ((bv (st.plain.take n)).length : Nat)]) n4
      refine ⟨_, rfl, p4, p1, _, _, rfl, rfl, upd_same, u4 _ _ e3, by rw [bv_len, List.length_take, sizeLine_eq]; show 1 + _ ≤ _; omega, fun p5 n5 => ?_⟩
      refine r _ { x with rd := p2 } p5 rfl rfl ?_
      have ea : [V.int ((bv (st.plain.take n)).length : Nat)] ++ bv (st.plain.take n) = av (Sf83Neutral.listOf ⟨(st.plain.take n).length, Sf83.nums (st.plain.take n)⟩) := by
        rw [bv_len, ← av_nums]
        rfl
      rw [ea]
      exact Cells.midU (c3.same u4) _ n5
end
end S
namespace L2
open PySem PySem.Spec PyProof.Rows S
section
variable {C : Cs} {H H' : Hp} {x : EA} {s : Sf83.S} {L : List (Addr × HO)} {k : Nat} {kl' : Addr}
theorem Cells.stepS (c : Cells H (eCells C x s ++ L)) (st : Stepped C H x.sw x.dsw x.ks s.sendKey s.sendCount s.renewed k H' kl') :
    Cells H' (eCells C { x with ks := kl' } { s with sendKey := wayKey k s.sendKey, sendCount := wayCount k s.sendCount, renewed := wayNew k s.renewed } ++ L) := by
  have c1 := c.put 5 rfl st.1 st.2.1.obj
  refine c1.repl 4 ?_ st.2.1.key
  rcases st.2.2 with z | z
  · exact .inr ⟨.lst (bv s.sendKey), by rw [z]; rfl⟩
  · refine .inl ?_
    rw [map_fst_set (o := .ins C.W x.dsw (wf (.ref x.ks) (.int (s.sendCount : Nat)) (.int (s.renewed : Nat)))) rfl]
    exact c.notin z
theorem Cells.stepR (c : Cells H (eCells C x s ++ L)) (st : Stepped C H x.rw x.drw x.kr s.takeKey s.takeCount s.renewals k H' kl') :
    Cells H' (eCells C { x with kr := kl' } { s with takeKey := wayKey k s.takeKey, takeCount := wayCount k s.takeCount, renewals := wayNew k s.renewals } ++ L) := by
  have c1 := c.put 7 rfl st.1 st.2.1.obj
  refine c1.repl 6 ?_ st.2.1.key
  rcases st.2.2 with z | z
  · exact .inr ⟨.lst (bv s.takeKey), by rw [z]; rfl⟩
  · refine .inl ?_
    rw [map_fst_set (o := .ins C.W x.drw (wf (.ref x.kr) (.int (s.takeCount : Nat)) (.int (s.renewals : Nat)))) rfl]
    exact c.notin z
end
end L2
namespace S
open PySem PySem.Spec PyProof.Rows L2
theorem ifBit {b : Bool} {σ : L2.St} {H : Hp} {Q : VK} (h : Q (V.int (Sf83.bit b : Nat)) H) : if b = true then tC (.int 1) σ H Q else tC (.int 0) σ H Q := by
  cases b
  · exact iteF h
  · exact iteT h
theorem record_eq (s : Sf83.S) (k : Nat) (b : List UInt8) : s.record k b = { s with out := s.out ++ recBytes s.sendKey s.sendCount k b, sendKey := wayKey k s.sendKey, sendCount := wayCount k s.sendCount, renewed := wayNew k s.renewed } := by
  unfold Sf83.S.record wayKey wayCount wayNew recBytes recHead
  by_cases h : k = 1
  · simp only [if_pos h]
  · simp only [if_neg h]
theorem record_out (s : Sf83.S) (k : Nat) (b : List UInt8) : (s.record k b).out.length = s.out.length + (b.length + 19) := by
  rw [record_eq]
  show (s.out ++ recBytes s.sendKey s.sendCount k b).length = _
  rw [List.length_append, recBytes_len]
theorem record_key (s : Sf83.S) (k : Nat) (b : List UInt8) (h : s.sendKey.length = 32) : (s.record k b).sendKey.length = 32 := by
  rw [record_eq]
  exact wayKey_len h
theorem due_out (s : Sf83.S) : s.due.out.length ≤ s.out.length + 19 := by
  unfold Sf83.S.due
  split
  · rw [record_out]; exact Nat.le_refl _
  · omega
theorem due_key (s : Sf83.S) (h : s.sendKey.length = 32) : s.due.sendKey.length = 32 := by
  unfold Sf83.S.due
  split
  · exact record_key _ _ _ h
  · exact h
section
variable {P : Program} {w : World} {K : PySem.W.Frag} {mg : Str → Option Value} {base : Heap} {C : Cs}
abbrev st_End_state : Stmt := inClass (top 80) 15
theorem sc_End_state : FnScope ["self"] ["self"] (defScope st_End_state) := ⟨rfl, rfl, rfl, by decide +kernel, rfl, by decide +kernel, by decide +kernel⟩
theorem bd_End_state : BindsOf "state" "End.state" st_End_state ["self"] := fun _ _ _ _ _ _ us hl => match us, hl with | [_], _ => rfl
def spState (C : Cs) : Sp := fun vs H Q _ => ∃ (x : EA) (s : Sf83.S) (L : List (Addr × HO)), vs = [.ref x.e] ∧ Cells H (eCells C x s ++ L) ∧ AnsL C x.e x.gr (Sf83.does s .state).1 L (Sf83Neutral.listOf (Sf83.does s .state).2) Q
theorem ok_state {f : Addr} {fd : FuncData} (F : Fun K "state" "End.state" st_End_state f fd) (G : Glb mg) (T : Txt K mg C) : FnOk P w K mg base CX0 1 f fd ["self"] (spState C) := by
  refine F.ok sc_End_state (fun vs H Q E h => ?_) (fun cdv A outer s H vs Q E hr h => ?_)
  · obtain ⟨x, s, L, rfl, _⟩ := h
    rfl
  · obtain ⟨x, st, L, rfl, c, r⟩ := h
    refine ⟨_, (pss_one (ps_ret (pe_lst (pa_cons (pe_fld (pv 0) rfl) (pa_cons (pe_callB call_len_seq rfl G.len boot_len (pa_cons (pe_fld (pv 0) rfl) pa_nil)) (pa_cons (pe_callB call_len_seq rfl G.len boot_len (pa_cons (pe_fld (pv 0) rfl) pa_nil)) (pa_cons (pe_callB call_len_seq rfl G.len boot_len (pa_cons (pe_fld (pv 0) rfl) pa_nil)) (pa_cons (pe_ifExp (pt_truth (pe_fld (pv 0) rfl) (fun _ => rfl)) pe_int pe_int) (pa_cons (pe_ifExp (pt_truth (pe_fld (pv 0) rfl) (fun _ => rfl)) pe_int pe_int) (pa_cons (pe_fld (pe_fld (pv 0) rfl) rfl) (pa_cons (pe_fld (pe_fld (pv 0) rfl) rfl) (pa_cons (pe_fld (pe_fld (pv 0) rfl) rfl) (pa_cons (pe_fld (pe_fld (pv 0) rfl) rfl) pa_nil))))))))))))), ?_⟩
    refine ⟨_, rfl, _, _, _, _, _, rfl, c.e, T.cE, T.nE_phase, ef_phase, _, rfl, _, _, _, _, _, rfl, c.e, T.cE, T.nE_outgoing, ef_outgoing, _, _, rfl, .inl (SqL.of c.o), _, rfl, _, _, _, _, _, rfl, c.e, T.cE, T.nE_readable, ef_readable, _, _, rfl, .inl (SqL.of c.rd), _, rfl, _, _, _, _, _, rfl, c.e, T.cE, T.nE_arrived, ef_arrived, _, _, rfl, .inl (SqL.of c.ar), _, rfl, _, _, _, _, _, rfl, c.e, T.cE, T.nE_end_sent, ef_end_sent, _, rfl, ifBit ?_⟩
    refine ⟨_, rfl, _, _, _, _, _, rfl, c.e, T.cE, T.nE_end_came, ef_end_came, _, rfl, ifBit ?_⟩
    refine ⟨_, rfl, _, _, _, _, _, rfl, c.e, T.cE, T.nE_sending, ef_sending, _, _, _, _, _, rfl, c.sw.obj, T.cW, T.nW_count, wf_count, _, rfl, _, _, _, _, _, rfl, c.e, T.cE, T.nE_receiving, ef_receiving, _, _, _, _, _, rfl, c.rw.obj, T.cW, T.nW_count, wf_count, _, rfl, _, _, _, _, _, rfl, c.e, T.cE, T.nE_sending, ef_sending, _, _, _, _, _, rfl, c.sw.obj, T.cW, T.nW_new_keys, wf_new_keys, _, rfl, _, _, _, _, _, rfl, c.e, T.cE, T.nE_receiving, ef_receiving, _, _, _, _, _, rfl, c.rw.obj, T.cW, T.nW_new_keys, wf_new_keys, (by show 10 ≤ sizeLine; rw [sizeLine_eq]; decide), fun p hp => ?_⟩
    refine r _ x p rfl rfl ?_
    have ea : [V.int (Sf83.phaseOf st.phase : Nat), V.int ((bv st.out).length : Nat), V.int ((bv st.plain).length : Nat), V.int ((bv st.kept).length : Nat), V.int (Sf83.bit st.over : Nat), V.int (Sf83.bit st.ended : Nat), V.int (st.sendCount : Nat), V.int (st.takeCount : Nat), V.int (st.renewed : Nat), V.int (st.renewals : Nat)] = av (Sf83Neutral.listOf (Sf83.does st .state).2) := by
      rw [bv_len, bv_len, bv_len]
      rfl
    rw [← ea]
    exact Cells.midU c _ hp
abbrev st_End_send : Stmt := inClass (top 80) 6
theorem sc_End_send : FnScope ["self", "kind", "data"] ["self", "kind", "data"] (defScope st_End_send) := ⟨rfl, rfl, rfl, by decide +kernel, rfl, by decide +kernel, by decide +kernel⟩
theorem bd_End_send : BindsOf "send" "End.send" st_End_send ["self", "kind", "data"] := fun _ _ _ _ _ _ us hl => match us, hl with | [_, _, _], _ => rfl
def Mov (C : Cs) (x : EA) (s' : Sf83.S) (L : List (Addr × HO)) (Q : Hp → Prop) : Prop := ∀ (H' : Hp) (x' : EA), x'.e = x.e → x'.gr = x.gr → Cells H' (eCells C x' s' ++ L) → Q H'
def spSend (C : Cs) : Sp := fun vs H Q _ => ∃ (x : EA) (s : Sf83.S) (L : List (Addr × HO)) (d : Addr) (k : Nat) (data : List UInt8), vs = [.ref x.e, .int k, .ref d] ∧ Cells H (eCells C x s ++ (d, .lst (bv data)) :: L) ∧ s.sendKey.length = 32 ∧ data.length ≤ 16384 ∧ k < 256 ∧ s.out.length ≤ 10000000 ∧
  Mov C x (s.record k data) ((d, .lst (bv data)) :: L) (Q .non)
theorem ok_send {f : Addr} {fd : FuncData} (F : Fun K "send" "End.send" st_End_send f fd) (G : Glb mg) (T : Txt K mg C) (F_record : Mt P w K mg base C.W "record" 8 ["self", "kind", "data"] (spRecord C)) : FnOk P w K mg base CX0 9 f fd ["self", "kind", "data"] (spSend C) := by
  refine F.ok sc_End_send (fun vs H Q E h => ?_) (fun cdv A outer s H vs Q E hr h => ?_)
  · obtain ⟨x, s, L, d, k, data, rfl, _⟩ := h
    rfl
  · obtain ⟨x, st, L, d, k, data, rfl, c, lk, ld, hk, lo, r⟩ := h
    refine ⟨_, (pss_one (ps_expr (pe_bm PySem.F.plainAttrs_list PySem.F.slot_list_extend PySem.F.type_list_extend mt_extend (pe_fld (pv 0) rfl) (pa_cons (pe_mtX (pe_fld (pv 0) rfl) T.cW F_record hr (by decide) pass0 (pa_cons (pv 1) (pa_cons (pv 2) pa_nil))) pa_nil)))), ?_⟩
    refine ⟨_, rfl, _, _, _, _, _, rfl, c.e, T.cE, T.nE_outgoing, ef_outgoing, .inl ⟨rfl, _, SqL.of c.o⟩, _, rfl, _, _, _, _, _, rfl, c.e, T.cE, T.nE_sending, ef_sending, _, _, _, rfl, c.sw.obj, wf_no (by decide +kernel), _, rfl, _, rfl, x.sw, x.dsw, x.ks, d, st.sendKey, data, st.sendCount, st.renewed, k, rfl, c.sw, lk, c.memb, ld, hk, fun H1 kl' p sp np ep hp => ?_⟩
    have c1 := c.stepS sp
    refine ⟨x.o, p, _, _, rfl, rfl, c1.o, ep, by rw [bv_len, bv_len, recBytes_len, sizeLine_eq]; show st.out.length + (data.length + 19) ≤ 16777216; omega, ?_⟩
    rw [record_eq] at r
    refine r _ { x with ks := kl' } rfl rfl ?_
    rw [← bv_app]
    exact c1.putU 1 (.lst (bv (st.out ++ recBytes st.sendKey st.sendCount k data))) rfl
abbrev st_End_send_with_new_key_if_due : Stmt := inClass (top 80) 7
theorem sc_End_send_with_new_key_if_due : FnScope ["self", "kind", "data"] ["self", "kind", "data"] (defScope st_End_send_with_new_key_if_due) := ⟨rfl, rfl, rfl, by decide +kernel, rfl, by decide +kernel, by decide +kernel⟩
theorem bd_End_send_with_new_key_if_due : BindsOf "send_with_new_key_if_due" "End.send_with_new_key_if_due" st_End_send_with_new_key_if_due ["self", "kind", "data"] := fun _ _ _ _ _ _ us hl => match us, hl with | [_, _, _], _ => rfl
def spDue (C : Cs) : Sp := fun vs H Q _ => ∃ (x : EA) (s : Sf83.S) (L : List (Addr × HO)) (d : Addr) (k : Nat) (data : List UInt8), vs = [.ref x.e, .int k, .ref d] ∧ Cells H (eCells C x s ++ (d, .lst (bv data)) :: L) ∧ s.sendKey.length = 32 ∧ data.length ≤ 16384 ∧ k < 256 ∧ s.out.length ≤ 9000000 ∧
  Mov C x (s.due.record k data) ((d, .lst (bv data)) :: L) (Q .non)
theorem ok_due {f : Addr} {fd : FuncData} (F : Fun K "send_with_new_key_if_due" "End.send_with_new_key_if_due" st_End_send_with_new_key_if_due f fd) (G : Glb mg) (T : Txt K mg C) (F_send : Mt P w K mg base C.E "send" 9 ["self", "kind", "data"] (spSend C)) : FnOk P w K mg base CX0 10 f fd ["self", "kind", "data"] (spDue C) := by
  refine F.ok sc_End_send_with_new_key_if_due (fun vs H Q E h => ?_) (fun cdv A outer s H vs Q E hr h => ?_)
  · obtain ⟨x, s, L, d, k, data, rfl, _⟩ := h
    rfl
  · obtain ⟨x, st, L, d, k, data, rfl, c, lk, ld, hk, lo, r⟩ := h
    refine ⟨_, (pss_cons (ps_if (PW.pt (pw_and (pt_cmpR op_ne (pe_fld (pv 0) rfl) pe_int (nomark _)) (pw_and1 (pt_cmpR op_ge (pe_fld (pe_fld (pv 0) rfl) rfl) (pe_fld (pv 0) rfl) (nomark _))))) (pss_one (ps_expr (pe_mtX (pv 0) T.cE F_send hr (by decide) pass0 (pa_cons (pe_gint G.KEY_KIND) (pa_cons (pe_lst pa_nil) pa_nil))))) pss_nil) (pss_one (ps_expr (pe_mtX (pv 0) T.cE F_send hr (by decide) pass0 (pa_cons (pv 1) (pa_cons (pv 2) pa_nil)))))), ?_⟩
    have go : ∀ (H1 : Hp) (x1 : EA), x1.e = x.e → x1.gr = x.gr → Cells H1 (eCells C x1 st.due ++ (d, .lst (bv data)) :: L) → spSend C ([V.ref x1.e, V.int (k : Nat), V.ref d]) H1 (fun v H' => Q .non H') E0 := fun H1 x1 ee eg c1 => by
      have h1 := due_out st
      exact ⟨x1, st.due, L, d, k, data, rfl, c1, due_key st lk, ld, hk, by omega, fun H' x' e1 e2 c' => r H' x' (e1.trans ee) (e2.trans eg) c'⟩
    refine ⟨_, rfl, _, _, _, _, _, rfl, c.e, T.cE, T.nE_every, ef_every, rfl, _, rfl, ifU (fun z => ?_) fun z => ?_⟩
    · refine ⟨_, rfl, _, _, _, _, _, rfl, c.e, T.cE, T.nE_sending, ef_sending, _, _, _, _, _, rfl, c.sw.obj, T.cW, T.nW_count, wf_count, _, rfl, _, _, _, _, _, rfl, c.e, T.cE, T.nE_every, ef_every, _, _, rfl, rfl, _, rfl, ifD (fun z2 => ?_) fun z2 => ?_⟩
      · have ed : st.due = st.record 1 [] := if_pos ⟨by omega, by omega⟩
        refine ⟨_, rfl, _, _, _, rfl, c.e, ef_no (by decide +kernel), Nat.zero_le _, fun p hp => ?_⟩
        refine ⟨x, st, (d, .lst (bv data)) :: L, p, 1, [], rfl, Cells.midU c _ hp, lk, by decide, by decide, by omega, fun H1 x1 e1 e2 c1 => ?_⟩
        rw [← ed] at c1
        have c2 := Cells.unmid c1
        rw [← e1]
        exact ⟨_, by rw [e1]; rfl, _, _, _, rfl, c2.e, ef_no (by decide +kernel), _, rfl, _, rfl, go H1 x1 e1 e2 c2⟩
      · have ed : st.due = st := if_neg fun y => z2 (by omega)
        rw [ed] at go
        exact ⟨_, rfl, _, _, _, rfl, c.e, ef_no (by decide +kernel), _, rfl, _, rfl, go H x rfl rfl c⟩
    · have ed : st.due = st := if_neg fun y => y.1 (by omega)
      rw [ed] at go
      exact iteF ⟨_, rfl, _, _, _, rfl, c.e, ef_no (by decide +kernel), _, rfl, _, rfl, go H x rfl rfl c⟩
end
theorem refS_of {s : Sf83.S} (h : s.phase ≠ .sealed ∨ s.over = true) : refS s = if s.phase = .broken then -3 else -4 := by
  unfold refS
  by_cases hb : s.phase = .broken
  · rw [if_pos hb, if_pos hb]
  · rw [if_neg hb, if_neg hb, if_pos h]
theorem refS_zero {s : Sf83.S} (h : ¬ (s.phase ≠ .sealed ∨ s.over = true)) : refS s = 0 := by
  unfold refS
  have hp : s.phase = .sealed := by
    by_cases hp : s.phase = .sealed
    · exact hp
    · exact absurd (.inl hp) h
  rw [if_neg (by rw [hp]; intro z; cases z), if_neg h]
theorem refS_ne {s : Sf83.S} (h : s.phase ≠ .sealed ∨ s.over = true) : refS s ≠ 0 := by
  rw [refS_of h]
  split <;> decide
theorem refS_seal {s : Sf83.S} (h : refS s = 0) : s.phase = .sealed := by
  by_cases hp : s.phase ≠ .sealed ∨ s.over = true
  · exact absurd h (refS_ne hp)
  · by_cases hp' : s.phase = .sealed
    · exact hp'
    · exact absurd (.inl hp') hp
theorem refA_zero {s : Sf83.S} (h : refA s = 0) : refS s = 0 ∧ s.out.length ≤ 262144 := by
  unfold refA at h
  by_cases hc : refS s = 0 ∧ 262144 < s.out.length
  · rw [if_pos hc] at h
    exact absurd h (by decide)
  · rw [if_neg hc] at h
    exact ⟨h, by
      by_cases hl : 262144 < s.out.length
      · exact absurd ⟨h, hl⟩ hc
      · omega⟩
theorem does_write (s : Sf83.S) (b : List UInt8) : Sf83.does s (.write b) = if 65536 < b.length then (s, Sf83.says (-1)) else if refA s ≠ 0 then (s, Sf83.says (refA s)) else (Sf83.S.write (b.length + 1) s b, Sf83.says b.length) := by
  show (if Sf83.LONG < b.length then (s, Sf83.says (-1)) else if s.phase ≠ .sealed ∨ s.over = true then (s, Sf83.says (if s.phase = .broken then -3 else -4)) else if 4 * Sf83.LONG < s.out.length then (s, Sf83.says (-5)) else (Sf83.S.write (b.length + 1) s b, Sf83.says b.length)) = _
  by_cases h1 : 65536 < b.length
  · rw [if_pos h1, if_pos (show Sf83.LONG < b.length from h1)]
  · rw [if_neg h1, if_neg (show ¬ Sf83.LONG < b.length from h1)]
    by_cases h2 : s.phase ≠ .sealed ∨ s.over = true
    · have e : refA s = refS s := if_neg fun y => refS_ne h2 y.1
      rw [if_pos h2, e, if_pos (refS_ne h2), refS_of h2]
    · rw [if_neg h2]
      by_cases h3 : 262144 < s.out.length
      · have e : refA s = -5 := if_pos ⟨refS_zero h2, h3⟩
        rw [if_pos (show 4 * Sf83.LONG < s.out.length from h3), e, if_pos (by decide)]
      · have e : refA s = 0 := (if_neg fun y => h3 y.2).trans (refS_zero h2)
        rw [if_neg (show ¬ 4 * Sf83.LONG < s.out.length from h3), e, if_neg (fun y => y rfl)]
theorem does_renew (s : Sf83.S) : Sf83.does s .renew = if refA s ≠ 0 then (s, Sf83.says (refA s)) else (s.record 1 [], Sf83.says (s.renewed + 1)) := by
  show (if s.phase ≠ .sealed ∨ s.over = true then (s, Sf83.says (if s.phase = .broken then -3 else -4)) else if 4 * Sf83.LONG < s.out.length then (s, Sf83.says (-5)) else (s.record 1 [], Sf83.says (s.renewed + 1))) = _
  by_cases h2 : s.phase ≠ .sealed ∨ s.over = true
  · have e : refA s = refS s := if_neg fun y => refS_ne h2 y.1
    rw [if_pos h2, e, if_pos (refS_ne h2), refS_of h2]
  · rw [if_neg h2]
    by_cases h3 : 262144 < s.out.length
    · have e : refA s = -5 := if_pos ⟨refS_zero h2, h3⟩
      rw [if_pos (show 4 * Sf83.LONG < s.out.length from h3), e, if_pos (by decide)]
    · have e : refA s = 0 := (if_neg fun y => h3 y.2).trans (refS_zero h2)
      rw [if_neg (show ¬ 4 * Sf83.LONG < s.out.length from h3), e, if_neg (fun y => y rfl)]
theorem does_end (s : Sf83.S) : Sf83.does s .end_ = if refS s ≠ 0 then (s, Sf83.says (refS s)) else ({ s.due.record 2 [] with over := true }, Sf83.says 0) := by
  show (if s.phase ≠ .sealed ∨ s.over = true then (s, Sf83.says (if s.phase = .broken then -3 else -4)) else ({ s.due.record 2 [] with over := true }, Sf83.says 0)) = _
  by_cases h2 : s.phase ≠ .sealed ∨ s.over = true
  · rw [if_pos h2, if_pos (refS_ne h2), refS_of h2]
  · rw [if_neg h2, refS_zero h2, if_neg (fun y => y rfl)]
theorem write_step (f : Nat) (s : Sf83.S) (b : List UInt8) : Sf83.S.write (f + 1) s b = if b = [] then s else Sf83.S.write f (s.due.record 0 (b.take 16384)) (b.drop 16384) := rfl
section
variable {P : Program} {w : World} {K : PySem.W.Frag} {mg : Str → Option Value} {base : Heap} {C : Cs}
abbrev st_End_write : Stmt := inClass (top 80) 8
theorem sc_End_write : FnScope ["self", "data", "refusal", "place"] ["self", "data"] (defScope st_End_write) := ⟨rfl, rfl, rfl, by decide +kernel, rfl, by decide +kernel, by decide +kernel⟩
theorem bd_End_write : BindsOf "write" "End.write" st_End_write ["self", "data"] := fun _ _ _ _ _ _ us hl => match us, hl with | [_, _], _ => rfl
def spWrite (C : Cs) : Sp := fun vs H Q _ => ∃ (x : EA) (s : Sf83.S) (L : List (Addr × HO)) (d : Addr) (data : List UInt8), vs = [.ref x.e, .ref d] ∧ Cells H (eCells C x s ++ (d, .lst (bv data)) :: L) ∧ (s.phase = .sealed → s.sendKey.length = 32) ∧ data.length ≤ 1000000 ∧
  Mov C x (Sf83.does s (.write data)).1 ((d, .lst (bv data)) :: L) (Q (.int (Sf83.does s (.write data)).2.value))
theorem ok_write {f : Addr} {fd : FuncData} (F : Fun K "write" "End.write" st_End_write f fd) (G : Glb mg) (T : Txt K mg C) (F_refusal_to_add : Mt P w K mg base C.E "refusal_to_add" 2 ["self"] (spRef C refA))
    (F_send_with_new_key_if_due : Mt P w K mg base C.E "send_with_new_key_if_due" 10 ["self", "kind", "data"] (spDue C)) : FnOk P w K mg base CX0 11 f fd ["self", "data"] (spWrite C) := by
  refine F.ok sc_End_write (fun vs H Q E h => ?_) (fun cdv A outer s H vs Q E hr h => ?_)
  · obtain ⟨x, s, L, d, data, rfl, _⟩ := h
    rfl
  · obtain ⟨x, st, L, d, data, rfl, c, lk, ld, r⟩ := h
    refine ⟨_, (pss_cons (ps_if (pt_cmpR op_gt (pe_callB call_len_seq rfl G.len boot_len (pa_cons (pv 1) pa_nil)) (pe_gint G.MOST_BYTES) (nomark _)) (pss_one (ps_ret (pe_gint G.UNFIT))) pss_nil) (pss_cons (ps_set (i := 2) sc_End_write.nd rfl (Or.inl rfl) (pe_mtX0 (pv 0) T.cE F_refusal_to_add hr (by decide) pass0)) (pss_cons (ps_if (pt_cmpR op_ne (pv 2) pe_int (nomark _)) (pss_one (ps_ret (pv 2))) pss_nil) (pss_cons (ps_for PassesOwn.never rfl (pi_range3 rfl G.range (pa_cons pe_int (pa_cons (pe_callB call_len_seq rfl G.len boot_len (pa_cons (pv 1) pa_nil)) (pa_cons (pe_gint G.MOST_DATA) pa_nil)))) (pg_name (i := 3) sc_End_write.nd rfl (Or.inl rfl)) (pss_one (ps_expr (pe_mtX (pv 0) T.cE F_send_with_new_key_if_due hr (by decide) pass0 (pa_cons (pe_gint G.DATA_KIND) (pa_cons (pe_slice sl_list (pv 1) (po_some (pv 3)) (po_some (pe_op op_add (pv 3) (pe_gint G.MOST_DATA)))) pa_nil)))))) (pss_one (ps_ret (pe_callB call_len_seq rfl G.len boot_len (pa_cons (pv 1) pa_nil)))))))), ?_⟩
    rw [does_write] at r
    refine ⟨_, rfl, d, _, rfl, .inl (SqL.of c.memb), _, _, rfl, rfl, _, rfl, ifD (fun z => ?_) fun z => ?_⟩
    · rw [if_pos (by rw [bv_len] at z; omega)] at r
      exact r H x rfl rfl c
    · have hl : ¬ 65536 < data.length := fun y => z (by rw [bv_len]; omega)
      rw [if_neg hl] at r
      refine ⟨_, rfl, _, _, _, rfl, c.e, ef_no (by decide +kernel), x, st, _, rfl, c, ?_⟩
      try dsimp only [L2.start, Z1, Z2, Z3, Z4, Z5, Z6, List.replicate, Z7, Z8, Nat.reduceAdd, Nat.reduceSub, Nat.zero_add]
      refine ⟨_, rfl, rfl, _, rfl, ifU (fun z2 => ?_) fun z2 => ?_⟩
      · rw [if_pos z2] at r
        exact ⟨_, rfl, r H x rfl rfl c⟩
      · rw [if_neg (fun y => y z2)] at r
        obtain ⟨hs, lo⟩ := refA_zero z2
        have hR : RgC 0 ((bv data).length : Int) 16384 ((data.length + 16383) / 16384) := by
          have z := RgC_up (bv data).length 16384 (by decide) (by decide) (by rw [bv_len]; omega)
          rw [bv_len] at z ⊢
          exact z
        refine ⟨_, rfl, d, _, rfl, .inl (SqL.of c.memb), 0, _, 16384, _, rfl, hR, ?_⟩
        generalize refA st = ra at *
        refine for_rangeC (n := (data.length + 16383) / 16384) (fun i σ H' => ∃ (x' : EA) (s' : Sf83.S) (v3 : Option V), σ = [some (.ref x'.e), some (.ref d), some (.int ra), v3] ∧ x'.e = x.e ∧ x'.gr = x.gr ∧ Cells H' (eCells C x' s' ++ (d, .lst (bv data)) :: L) ∧ s'.sendKey.length = 32 ∧ s'.out.length ≤ 262144 + 17000 * i ∧
          Sf83.S.write (data.length + 1 - i) s' (data.drop (16384 * i)) = Sf83.S.write (data.length + 1) st data) ⟨x, st, none, rfl, rfl, rfl, c, lk (refS_seal hs), lo, rfl⟩ ?_ ?_
        · rintro i σ H' hi ⟨x', s', v3, rfl, ee, eg, c', lk', lo', hw⟩
          refine ⟨_, rfl, _, _, _, rfl, c'.e, ef_no (by decide +kernel), _, rfl, _, rfl, _, rfl, _, rfl, _, _, rfl, rfl, _, rfl, d, _, rfl, SqL.of c'.memb, fun p hp => ?_⟩
          try dsimp only [L2.start, Z1, Z2, Z3, Z4, Z5, Z6, List.replicate, Z7, Z8, Nat.reduceAdd, Nat.reduceSub, Nat.zero_add]
          rw [show cutV (bv data) (some (0 + (i : Nat) * 16384)) (some (0 + (i : Nat) * 16384 + 16384)) = bv ((data.drop (16384 * i)).take 16384) from cut_part data i 16384]
          have hne : data.drop (16384 * i) ≠ [] := fun e => by
            have := congrArg List.length e
            rw [List.length_drop] at this
            have h0 : ([] : List UInt8).length = 0 := rfl
            omega
          rw [show data.length + 1 - i = (data.length - i) + 1 by omega, write_step, if_neg hne, List.drop_drop] at hw
          refine ⟨x', s', (d, .lst (bv data)) :: L, p, 0, (data.drop (16384 * i)).take 16384, rfl, Cells.midU c' _ hp, lk', by rw [List.length_take]; omega, by decide, by omega, fun H2 x2 e1 e2 c2 => ?_⟩
          refine ⟨x2, _, some (.int (0 + (i : Nat) * 16384)), by rw [e1], e1.trans ee, e2.trans eg, Cells.unmid c2, record_key _ _ _ (due_key _ lk'), ?_, ?_⟩
          · rw [record_out]
            have h1 := due_out s'
            have h2 : ((data.drop (16384 * i)).take 16384).length ≤ 16384 := by rw [List.length_take]; omega
            omega
          · rw [← hw, show data.length + 1 - (i + 1) = data.length - i by omega, show 16384 * (i + 1) = 16384 * i + 16384 by omega]
        · rintro σ H' ⟨x', s', v3, rfl, ee, eg, c', lk', lo', hw⟩
          have hnil : data.drop (16384 * ((data.length + 16383) / 16384)) = [] := List.drop_eq_nil_of_le (by omega)
          obtain ⟨g, hg⟩ : ∃ g, data.length + 1 - (data.length + 16383) / 16384 = g + 1 := ⟨data.length - (data.length + 16383) / 16384, by omega⟩
          rw [hnil, hg, write_step, if_pos rfl] at hw
          rw [← hw] at r
          refine ⟨_, rfl, d, _, rfl, .inl (SqL.of c'.memb), ?_⟩
          have q := r H' x' ee eg c'
          rw [bv_len]
          exact q
abbrev st_End_renew : Stmt := inClass (top 80) 9
theorem sc_End_renew : FnScope ["self", "refusal"] ["self"] (defScope st_End_renew) := ⟨rfl, rfl, rfl, by decide +kernel, rfl, by decide +kernel, by decide +kernel⟩
theorem bd_End_renew : BindsOf "renew" "End.renew" st_End_renew ["self"] := fun _ _ _ _ _ _ us hl => match us, hl with | [_], _ => rfl
def spRenew (C : Cs) : Sp := fun vs H Q _ => ∃ (x : EA) (s : Sf83.S) (L : List (Addr × HO)), vs = [.ref x.e] ∧ Cells H (eCells C x s ++ L) ∧ (s.phase = .sealed → s.sendKey.length = 32) ∧ Mov C x (Sf83.does s .renew).1 L (Q (.int (Sf83.does s .renew).2.value))
theorem ok_renew {f : Addr} {fd : FuncData} (F : Fun K "renew" "End.renew" st_End_renew f fd) (G : Glb mg) (T : Txt K mg C) (F_refusal_to_add : Mt P w K mg base C.E "refusal_to_add" 2 ["self"] (spRef C refA)) (F_send : Mt P w K mg base C.E "send" 9 ["self", "kind", "data"] (spSend C)) : FnOk P w K mg base CX0 10 f fd ["self"] (spRenew C) := by
  refine F.ok sc_End_renew (fun vs H Q E h => ?_) (fun cdv A outer s H vs Q E hr h => ?_)
  · obtain ⟨x, s, L, rfl, _⟩ := h
    rfl
  · obtain ⟨x, st, L, rfl, c, lk, r⟩ := h
    refine ⟨_, (pss_cons (ps_set (i := 1) sc_End_renew.nd rfl (Or.inl rfl) (pe_mtX0 (pv 0) T.cE F_refusal_to_add hr (by decide) pass0)) (pss_cons (ps_if (pt_cmpR op_ne (pv 1) pe_int (nomark _)) (pss_one (ps_ret (pv 1))) pss_nil) (pss_cons (ps_expr (pe_mtX (pv 0) T.cE F_send hr (by decide) pass0 (pa_cons (pe_gint G.KEY_KIND) (pa_cons (pe_lst pa_nil) pa_nil)))) (pss_one (ps_ret (pe_fld (pe_fld (pv 0) rfl) rfl)))))), ?_⟩
    rw [does_renew] at r
    refine ⟨_, rfl, _, _, _, rfl, c.e, ef_no (by decide +kernel), x, st, _, rfl, c, ?_⟩
    try dsimp only [L2.start, Z1, Z2, Z3, Z4, Z5, Z6, List.replicate, Z7, Z8, Nat.reduceAdd, Nat.reduceSub, Nat.zero_add]
    refine ⟨_, rfl, rfl, _, rfl, ifU (fun z2 => ?_) fun z2 => ?_⟩
    · rw [if_pos z2] at r
      exact ⟨_, rfl, r H x rfl rfl c⟩
    · rw [if_neg (fun y => y z2)] at r
      obtain ⟨hs, lo⟩ := refA_zero z2
      refine ⟨_, rfl, _, _, _, rfl, c.e, ef_no (by decide +kernel), Nat.zero_le _, fun p hp => ?_⟩
      refine ⟨x, st, L, p, 1, [], rfl, Cells.midU c _ hp, lk (refS_seal hs), by decide, by decide, by omega, fun H1 x1 e1 e2 c1 => ?_⟩
      have c2 := Cells.unmid c1
      have q := r H1 x1 e1 e2 c2
      rw [record_eq] at c2
      rw [← e1]
      refine ⟨_, by rw [e1]; rfl, _, _, _, _, _, rfl, c2.e, T.cE, T.nE_sending, ef_sending, _, _, _, _, _, rfl, c2.sw.obj, T.cW, T.nW_new_keys, wf_new_keys, ?_⟩
      have ev : ((wayNew 1 st.renewed : Nat) : Int) = (st.renewed : Int) + 1 := by
        unfold wayNew
        rw [if_pos rfl]
        omega
      show Q (V.int ((wayNew 1 st.renewed : Nat) : Int)) H1
      rw [ev]
      exact q
abbrev st_End_finish : Stmt := inClass (top 80) 10
theorem sc_End_finish : FnScope ["self", "refusal"] ["self"] (defScope st_End_finish) := ⟨rfl, rfl, rfl, by decide +kernel, rfl, by decide +kernel, by decide +kernel⟩
theorem bd_End_finish : BindsOf "finish" "End.finish" st_End_finish ["self"] := fun _ _ _ _ _ _ us hl => match us, hl with | [_], _ => rfl
def spFinish (C : Cs) : Sp := fun vs H Q _ => ∃ (x : EA) (s : Sf83.S) (L : List (Addr × HO)), vs = [.ref x.e] ∧ Cells H (eCells C x s ++ L) ∧ (s.phase = .sealed → s.sendKey.length = 32) ∧ s.out.length ≤ 9000000 ∧ Mov C x (Sf83.does s .end_).1 L (Q (.int (Sf83.does s .end_).2.value))
theorem ok_finish {f : Addr} {fd : FuncData} (F : Fun K "finish" "End.finish" st_End_finish f fd) (G : Glb mg) (T : Txt K mg C) (F_refusal_to_send : Mt P w K mg base C.E "refusal_to_send" 1 ["self"] (spRef C refS))
    (F_send_with_new_key_if_due : Mt P w K mg base C.E "send_with_new_key_if_due" 10 ["self", "kind", "data"] (spDue C)) : FnOk P w K mg base CX0 11 f fd ["self"] (spFinish C) := by
  refine F.ok sc_End_finish (fun vs H Q E h => ?_) (fun cdv A outer s H vs Q E hr h => ?_)
  · obtain ⟨x, s, L, rfl, _⟩ := h
    rfl
  · obtain ⟨x, st, L, rfl, c, lk, lo, r⟩ := h
    refine ⟨_, (pss_cons (ps_set (i := 1) sc_End_finish.nd rfl (Or.inl rfl) (pe_mtX0 (pv 0) T.cE F_refusal_to_send hr (by decide) pass0)) (pss_cons (ps_if (pt_cmpR op_ne (pv 1) pe_int (nomark _)) (pss_one (ps_ret (pv 1))) pss_nil) (pss_cons (ps_expr (pe_mtX (pv 0) T.cE F_send_with_new_key_if_due hr (by decide) pass0 (pa_cons (pe_gint G.END_KIND) (pa_cons (pe_lst pa_nil) pa_nil)))) (pss_cons (ps_fld (pv 0) pe_bl rfl) (pss_one (ps_ret pe_int)))))), ?_⟩
    rw [does_end] at r
    refine ⟨_, rfl, _, _, _, rfl, c.e, ef_no (by decide +kernel), x, st, _, rfl, c, ?_⟩
    try dsimp only [L2.start, Z1, Z2, Z3, Z4, Z5, Z6, List.replicate, Z7, Z8, Nat.reduceAdd, Nat.reduceSub, Nat.zero_add]
    refine ⟨_, rfl, rfl, _, rfl, ifU (fun z2 => ?_) fun z2 => ?_⟩
    · rw [if_pos z2] at r
      exact ⟨_, rfl, r H x rfl rfl c⟩
    · rw [if_neg (fun y => y z2)] at r
      refine ⟨_, rfl, _, _, _, rfl, c.e, ef_no (by decide +kernel), Nat.zero_le _, fun p hp => ?_⟩
      refine ⟨x, st, L, p, 2, [], rfl, Cells.midU c _ hp, lk (refS_seal z2), by decide, by decide, lo, fun H1 x1 e1 e2 c1 => ?_⟩
      have c2 := Cells.unmid c1
      rw [← e1]
      refine ⟨_, by rw [e1]; rfl, _, _, _, _, rfl, c2.e, T.cE, T.nE_end_sent, (by show 11 < 1000; decide), ?_⟩
      rw [ef_put_end_sent]
      refine r _ x1 e1 e2 ?_
      exact c2.putU 0 (eObj C x1 { st.due.record 2 [] with over := true }) rfl
abbrev st_End_arrived_part : Stmt := inClass (top 80) 18
theorem sc_End_arrived_part : FnScope ["self", "size", "part"] ["self", "size"] (defScope st_End_arrived_part) := ⟨rfl, rfl, rfl, by decide +kernel, rfl, by decide +kernel, by decide +kernel⟩
theorem bd_End_arrived_part : BindsOf "arrived_part" "End.arrived_part" st_End_arrived_part ["self", "size"] := fun _ _ _ _ _ _ us hl => match us, hl with | [_, _], _ => rfl
def spPart (C : Cs) : Sp := fun vs H Q _ => ∃ (x : EA) (s : Sf83.S) (L : List (Addr × HO)) (n : Nat), vs = [.ref x.e, .int n] ∧ Cells H (eCells C x s ++ L) ∧
  ∀ (H' : Hp) (x' : EA) (p : Addr), x'.e = x.e → x'.gr = x.gr → x'.rw = x.rw → Cells H' (eCells C x' { s with kept := s.kept.drop n } ++ (p, .lst (bv (s.kept.take n))) :: L) → Q (.ref p) H'
theorem ok_part {f : Addr} {fd : FuncData} (F : Fun K "arrived_part" "End.arrived_part" st_End_arrived_part f fd) (G : Glb mg) (T : Txt K mg C) : FnOk P w K mg base CX0 1 f fd ["self", "size"] (spPart C) := by
  refine F.ok sc_End_arrived_part (fun vs H Q E h => ?_) (fun cdv A outer s H vs Q E hr h => ?_)
  · obtain ⟨x, s, L, n, rfl, _⟩ := h
    rfl
  · obtain ⟨x, st, L, n, rfl, c, r⟩ := h
    refine ⟨_, (pss_cons (ps_set (i := 2) sc_End_arrived_part.nd rfl (Or.inl rfl) (pe_slice sl_list (pe_fld (pv 0) rfl) po_none (po_some (pv 1)))) (pss_cons (ps_fld (pv 0) (pe_slice sl_list (pe_fld (pv 0) rfl) (po_some (pv 1)) po_none) rfl) (pss_one (ps_ret (pv 2))))), ?_⟩
    refine ⟨_, rfl, _, _, _, _, _, rfl, c.e, T.cE, T.nE_arrived, ef_arrived, _, rfl, _, rfl, _, _, rfl, SqL.of c.ar, fun p1 n1 => ?_⟩
    rw [cut_xn, bv_take]
    have c1 := Cells.midU c (.lst (bv (st.kept.take n))) n1
    try dsimp only [L2.start, Z1, Z2, Z3, Z4, Z5, Z6, List.replicate, Z7, Z8, Nat.reduceAdd, Nat.reduceSub, Nat.zero_add]
    refine ⟨_, rfl, _, _, _, _, _, rfl, c1.e, T.cE, T.nE_arrived, ef_arrived, _, rfl, _, rfl, _, _, rfl, SqL.of c1.ar, fun p2 n2 => ?_⟩
    rw [cut_nx, bv_drop]
    have u2 := (Same.refl _).upd (o := .lst (bv (st.kept.drop n))) n2
    have c2 := c1.same u2
    refine ⟨_, rfl, _, _, _, _, rfl, c2.e, T.cE, T.nE_arrived, (by show 11 < 1000; decide), ?_⟩
    rw [ef_put_arrived]
    have c3 : Cells _ (eCells C { x with ar := p2 } { st with kept := st.kept.drop n } ++ (p1, .lst (bv (st.kept.take n))) :: L) := (c2.repl 2 (.inl (c1.notin n2)) upd_same).putU 0 (eObj C { x with ar := p2 } { st with kept := st.kept.drop n }) rfl
    exact ⟨_, rfl, r _ { x with ar := p2 } p1 rfl rfl rfl c3⟩
abbrev st_End_receive : Stmt := inClass (top 80) 21
theorem sc_End_receive : FnScope ["self", "inner"] ["self", "inner"] (defScope st_End_receive) := ⟨rfl, rfl, rfl, by decide +kernel, rfl, by decide +kernel, by decide +kernel⟩
theorem bd_End_receive : BindsOf "receive" "End.receive" st_End_receive ["self", "inner"] := fun _ _ _ _ _ _ us hl => match us, hl with | [_, _], _ => rfl
def received (s : Sf83.S) (k : Nat) (d : List UInt8) : Sf83.S := if k = 0 then { s with plain := s.plain ++ d } else if k = 2 then { s with ended := true } else s
def spReceive (C : Cs) : Sp := fun vs H Q _ => ∃ (x : EA) (s : Sf83.S) (L : List (Addr × HO)) (p : Addr) (k : UInt8) (d : List UInt8), vs = [.ref x.e, .ref p] ∧ Cells H (eCells C x s ++ (p, .lst (bv (k :: d))) :: L) ∧ s.plain.length + d.length ≤ 10000000 ∧
  Mov C x (received s k.toNat d) ((p, .lst (bv (k :: d))) :: L) (Q .non)
theorem ok_receive {f : Addr} {fd : FuncData} (F : Fun K "receive" "End.receive" st_End_receive f fd) (G : Glb mg) (T : Txt K mg C) : FnOk P w K mg base CX0 1 f fd ["self", "inner"] (spReceive C) := by
  refine F.ok sc_End_receive (fun vs H Q E h => ?_) (fun cdv A outer s H vs Q E hr h => ?_)
  · obtain ⟨x, s, L, p, k, d, rfl, _⟩ := h
    rfl
  · obtain ⟨x, st, L, p, k, d, rfl, c, lp, r⟩ := h
    refine ⟨_, (pss_cons (ps_if (pt_cmpR op_eq (pe_ix ix_list (pv 1) pe_int (fun _ _ => rfl)) (pe_gint G.DATA_KIND) (nomark _)) (pss_one (ps_expr (pe_bm PySem.F.plainAttrs_list PySem.F.slot_list_extend PySem.F.type_list_extend mt_extend (pe_fld (pv 0) rfl) (pa_cons (pe_slice sl_list (pv 1) (po_some pe_int) po_none) pa_nil)))) pss_nil) (pss_one (ps_if (pt_cmpR op_eq (pe_ix ix_list (pv 1) pe_int (fun _ _ => rfl)) (pe_gint G.END_KIND) (nomark _)) (pss_one (ps_fld (pv 0) pe_bl rfl)) pss_nil))), ?_⟩
    refine ⟨_, rfl, p, _, _, _, rfl, rfl, SqL.of c.memb, atI_nat (j := 0) rfl, rfl, _, rfl, ifE (fun z => ?_) fun z => ?_⟩
    · have z : k.toNat = 0 := by
        have z : ((k.toNat : Nat) : Int) = 0 := z
        omega
      have er : received st k.toNat d = { st with plain := st.plain ++ d } := if_pos z
      rw [er] at r
      refine ⟨_, rfl, _, _, _, _, _, rfl, c.e, T.cE, T.nE_readable, ef_readable, .inl ⟨rfl, _, SqL.of c.rd⟩, _, rfl, _, rfl, p, _, rfl, SqL.of c.memb, fun p1 n1 => ?_⟩
      rw [show cutV (bv (k :: d)) (some 1) none = bv d from (cut_nx _ 1).trans rfl]
      have u1 := (Same.refl _).upd (o := .lst (bv d)) n1
      have c1 := c.same u1
      refine ⟨x.rd, p1, _, _, rfl, rfl, c1.rd, upd_same, by rw [bv_len, bv_len, sizeLine_eq]; omega, ?_⟩
      rw [← bv_app]
      have c2 : Cells _ (eCells C x { st with plain := st.plain ++ d } ++ (p, .lst (bv (k :: d))) :: L) := c1.putU 3 (.lst (bv (st.plain ++ d))) rfl
      refine ⟨_, rfl, p, _, _, _, rfl, rfl, SqL.of c2.memb, atI_nat (j := 0) rfl, rfl, _, rfl, ifE (fun z2 => ?_) fun z2 => ?_⟩
      · have z2 : ((k.toNat : Nat) : Int) = 2 := z2
        omega
      · exact r _ x rfl rfl c2
    · have z : k.toNat ≠ 0 := fun y => z (by show ((k.toNat : Nat) : Int) = 0; omega)
      refine ⟨_, rfl, p, _, _, _, rfl, rfl, SqL.of c.memb, atI_nat (j := 0) rfl, rfl, _, rfl, ifE (fun z2 => ?_) fun z2 => ?_⟩
      · have z2 : k.toNat = 2 := by
          have z2 : ((k.toNat : Nat) : Int) = 2 := z2
          omega
        have er : received st k.toNat d = { st with ended := true } := (if_neg z).trans (if_pos z2)
        rw [er] at r
        refine ⟨_, rfl, _, _, _, _, rfl, c.e, T.cE, T.nE_end_came, (by show 11 < 1000; decide), ?_⟩
        rw [ef_put_end_came]
        exact r _ x rfl rfl (c.putU 0 (eObj C x { st with ended := true }) rfl)
      · have z2 : k.toNat ≠ 2 := fun y => z2 (by show ((k.toNat : Nat) : Int) = 2; omega)
        have er : received st k.toNat d = st := (if_neg z).trans (if_neg z2)
        rw [er] at r
        exact r _ x rfl rfl c
end
section
variable {P : Program} {w : World} {K : PySem.W.Frag} {mg : Str → Option Value} {base : Heap} {C : Cs}
abbrev st_End_give_up : Stmt := inClass (top 80) 3
theorem sc_End_give_up : FnScope ["self"] ["self"] (defScope st_End_give_up) := ⟨rfl, rfl, rfl, by decide +kernel, rfl, by decide +kernel, by decide +kernel⟩
theorem bd_End_give_up : BindsOf "give_up" "End.give_up" st_End_give_up ["self"] := fun _ _ _ _ _ _ us hl => match us, hl with | [_], _ => rfl
def spGive (C : Cs) : Sp := fun vs H Q _ => ∃ (x : EA) (s : Sf83.S) (L : List (Addr × HO)), vs = [.ref x.e] ∧ Cells H (eCells C x s ++ L) ∧ ∀ (H' : Hp) (x' : EA), x'.e = x.e → x'.gr = .non → Cells H' (eCells C x' s.break_ ++ L) → Q (.int (-3)) H'
theorem ok_give {f : Addr} {fd : FuncData} (F : Fun K "give_up" "End.give_up" st_End_give_up f fd) (G : Glb mg) (T : Txt K mg C) (F_forget : MtU P w K mg base C.W "forget" 1 ["self"] (spForget C)) : FnOkU P w K mg base 2 f fd ["self"] (spGive C) := by
  refine F.okU sc_End_give_up (fun vs H Q E h => ?_) (fun cdv A outer s H vs Q E hr h => ?_)
  · obtain ⟨x, s, L, rfl, _⟩ := h
    rfl
  · obtain ⟨x, st, L, rfl, c, r⟩ := h
    refine ⟨_, (pss_cons (ps_fld (pv 0) (pe_gint G.BROKEN) rfl) (pss_cons (ps_fld (pv 0) pe_non rfl) (pss_cons (ps_fld (pv 0) (pe_lst pa_nil) rfl) (pss_cons (ps_expr (pe_mtU0 (pe_fld (pv 0) rfl) T.cW F_forget hr (by decide))) (pss_cons (ps_expr (pe_mtU0 (pe_fld (pv 0) rfl) T.cW F_forget hr (by decide))) (pss_one (ps_ret (pe_gint G.IS_BROKEN)))))))), ?_⟩
    refine ⟨_, rfl, _, _, _, _, rfl, c.e, T.cE, T.nE_phase, (by show 11 < 1000; decide), ?_⟩
    rw [ef_put_phase]
    have c1 : Cells _ (eCells C x { st with phase := .broken } ++ L) := c.putU 0 (eObj C x { st with phase := .broken }) rfl
    refine ⟨_, rfl, _, _, _, _, rfl, c1.e, T.cE, T.nE_greeting, (by show 11 < 1000; decide), ?_⟩
    rw [ef_put_greeting]
    have c2 : Cells _ (eCells C { x with gr := .non } { st with phase := .broken } ++ L) := c1.putU 0 (eObj C { x with gr := .non } { st with phase := .broken }) rfl
    refine ⟨Nat.zero_le _, fun p1 n1 => ?_⟩
    have u1 := (Same.refl _).upd (o := .lst []) n1
    have c3 := c2.same u1
    refine ⟨_, rfl, _, _, _, _, rfl, c3.e, T.cE, T.nE_arrived, (by show 11 < 1000; decide), ?_⟩
    rw [ef_put_arrived]
    have c4 : Cells _ (eCells C { x with gr := .non, ar := p1 } { st with phase := .broken, kept := [] } ++ L) := (c3.repl 2 (.inl (c2.notin n1)) upd_same).putU 0 (eObj C { x with gr := .non, ar := p1 } { st with phase := .broken, kept := [] }) rfl
    refine ⟨_, rfl, _, _, _, _, _, rfl, c4.e, T.cE, T.nE_sending, ef_sending, _, _, _, rfl, c4.sw.obj, wf_no (by decide +kernel), x.sw, x.dsw, _, _, _, rfl, c4.sw.obj, fun H5 k5 kp5 o5 n5 e5 => ?_⟩
    have c5 : Cells H5 (eCells C { x with gr := .non, ar := p1, ks := k5 } { st with phase := .broken, kept := [], sendKey := [], sendCount := 0 } ++ L) := by
      refine (c4.put 5 rfl kp5 o5).repl 4 (.inl ?_) e5
      rw [map_fst_set (o := .ins C.W x.dsw (wf (.ref x.ks) (.int (st.sendCount : Nat)) (.int (st.renewed : Nat)))) rfl]
      exact c4.notin n5
    refine ⟨_, rfl, _, _, _, _, _, rfl, c5.e, T.cE, T.nE_receiving, ef_receiving, _, _, _, rfl, c5.rw.obj, wf_no (by decide +kernel), x.rw, x.drw, _, _, _, rfl, c5.rw.obj, fun H6 k6 kp6 o6 n6 e6 => ?_⟩
    have c6 : Cells H6 (eCells C { x with gr := .non, ar := p1, ks := k5, kr := k6 } st.break_ ++ L) := by
      refine (c5.put 7 rfl kp6 o6).repl 6 (.inl ?_) e6
      rw [map_fst_set (o := .ins C.W x.drw (wf (.ref x.kr) (.int (st.takeCount : Nat)) (.int (st.renewals : Nat)))) rfl]
      exact c5.notin n6
    exact r H6 { x with gr := .non, ar := p1, ks := k5, kr := k6 } rfl rfl c6
abbrev st_End_reset : Stmt := inClass (top 80) 1
theorem sc_End_reset : FnScope ["self"] ["self"] (defScope st_End_reset) := ⟨rfl, rfl, rfl, by decide +kernel, rfl, by decide +kernel, by decide +kernel⟩
theorem bd_End_reset : BindsOf "reset" "End.reset" st_End_reset ["self"] := fun _ _ _ _ _ _ us hl => match us, hl with | [_], _ => rfl
def Fills (fs : List (Str × V)) : Prop := ∀ v0 v1 v2 v3 v4 v5 v6 v7 v8 v9 v10 : V, putF "receiving" v10 (putF "sending" v9 (putF "end_came" v8 (putF "end_sent" v7 (putF "readable" v6 (putF "arrived" v5 (putF "outgoing" v4 (putF "greeting" v3 (putF "every" v2 (putF "leads" v1 (putF "phase" v0 fs)))))))))) = ef v0 v1 v2 v3 v4 v5 v6 v7 v8 v9 v10
def spReset (C : Cs) : Sp := fun vs H Q _ => ∃ (e de : Addr) (fs : List (Str × V)) (L : List (Addr × HO)), vs = [.ref e] ∧ Cells H ((e, .ins C.E de fs) :: L) ∧ fs.length < 900 ∧ Fills fs ∧ ∀ (H' : Hp) (x' : EA), x'.e = e → x'.gr = .non → Cells H' (eCells C x' Sf83.shut ++ L) → Q .non H'
theorem ok_reset {f : Addr} {fd : FuncData} (F : Fun K "reset" "End.reset" st_End_reset f fd) (G : Glb mg) (T : Txt K mg C) (M_Way : MkX P w K mg base "Way" C.W 1 ["self", "key"] (spWInit C)) : FnOk P w K mg base CX0 3 f fd ["self"] (spReset C) := by
  refine F.ok sc_End_reset (fun vs H Q E h => ?_) (fun cdv A outer s H vs Q E hr h => ?_)
  · obtain ⟨e, de, fs, L, rfl, _⟩ := h
    rfl
  · obtain ⟨e, de, fs, L, rfl, c, hl, fill, r⟩ := h
    refine ⟨_, (pss_cons (ps_fld (pv 0) (pe_gint G.NOT_OPENED) rfl) (pss_cons (ps_fld (pv 0) pe_bl rfl) (pss_cons (ps_fld (pv 0) pe_int rfl) (pss_cons (ps_fld (pv 0) pe_non rfl) (pss_cons (ps_fld (pv 0) (pe_lst pa_nil) rfl) (pss_cons (ps_fld (pv 0) (pe_lst pa_nil) rfl) (pss_cons (ps_fld (pv 0) (pe_lst pa_nil) rfl) (pss_cons (ps_fld (pv 0) pe_bl rfl) (pss_cons (ps_fld (pv 0) pe_bl rfl) (pss_cons (ps_fld (pv 0) (pe_mk M_Way hr (pa_cons (pe_lst pa_nil) pa_nil)) rfl) (pss_one (ps_fld (pv 0) (pe_mk M_Way hr (pa_cons (pe_lst pa_nil) pa_nil)) rfl)))))))))))), ?_⟩
    have lt : ∀ {n m : Nat}, n < m → m ≤ 1000 → n < 1000 := fun a b => Nat.lt_of_lt_of_le a b
    refine ⟨_, rfl, e, _, de, _, rfl, c.at_ 0 rfl, T.cE, T.nE_phase, lt hl (by decide), ?_⟩
    refine ⟨_, rfl, e, _, de, _, rfl, upd_same, T.cE, T.nE_leads, lt (putF_lt hl) (by decide), ?_⟩
    rw [upd_upd]
    refine ⟨_, rfl, e, _, de, _, rfl, upd_same, T.cE, T.nE_every, lt (putF_lt (putF_lt hl)) (by decide), ?_⟩
    rw [upd_upd]
    refine ⟨_, rfl, e, _, de, _, rfl, upd_same, T.cE, T.nE_greeting, lt (putF_lt (putF_lt (putF_lt hl))) (by decide), ?_⟩
    rw [upd_upd]
    have l4 := putF_lt (f := "greeting") (v := V.non) (putF_lt (f := "every") (v := V.int 0) (putF_lt (f := "leads") (v := V.bl false) (putF_lt (f := "phase") (v := V.int 0) hl)))
    have fill4 := fill (V.int 0) (V.bl false) (V.int 0) V.non
    generalize putF "greeting" V.non (putF "every" (V.int 0) (putF "leads" (V.bl false) (putF "phase" (V.int 0) fs))) = f4 at *
    have c4 : Cells _ ([(e, HO.ins C.E de f4)] ++ L) := c.putU 0 (.ins C.E de f4) rfl
    refine ⟨Nat.zero_le _, fun o n5 => ?_⟩
    have c5 := Cells.midU c4 (.lst []) n5
    refine ⟨_, rfl, e, _, de, _, rfl, c5.at_ 0 rfl, T.cE, T.nE_outgoing, lt l4 (by decide), ?_⟩
    have l5 := putF_lt (f := "outgoing") (v := V.ref o) l4
    have fill5 := fill4 (V.ref o)
    generalize putF "outgoing" (V.ref o) f4 = f5 at *
    have c5' : Cells _ ([(e, HO.ins C.E de f5), (o, .lst [])] ++ L) := c5.putU 0 (.ins C.E de f5) rfl
    refine ⟨Nat.zero_le _, fun ar n6 => ?_⟩
    have c6 := Cells.midU c5' (.lst []) n6
    refine ⟨_, rfl, e, _, de, _, rfl, c6.at_ 0 rfl, T.cE, T.nE_arrived, lt l5 (by decide), ?_⟩
    have l6 := putF_lt (f := "arrived") (v := V.ref ar) l5
    have fill6 := fill5 (V.ref ar)
    generalize putF "arrived" (V.ref ar) f5 = f6 at *
    have c6' : Cells _ ([(e, HO.ins C.E de f6), (o, .lst []), (ar, .lst [])] ++ L) := c6.putU 0 (.ins C.E de f6) rfl
    refine ⟨Nat.zero_le _, fun rd n7 => ?_⟩
    have c7 := Cells.midU c6' (.lst []) n7
    refine ⟨_, rfl, e, _, de, _, rfl, c7.at_ 0 rfl, T.cE, T.nE_readable, lt l6 (by decide), ?_⟩
    have l7 := putF_lt (f := "readable") (v := V.ref rd) l6
    have fill7 := fill6 (V.ref rd)
    generalize putF "readable" (V.ref rd) f6 = f7 at *
    have c7' : Cells _ ([(e, HO.ins C.E de f7), (o, .lst []), (ar, .lst []), (rd, .lst [])] ++ L) := c7.putU 0 (.ins C.E de f7) rfl
    refine ⟨_, rfl, e, _, de, _, rfl, c7'.at_ 0 rfl, T.cE, T.nE_end_sent, lt l7 (by decide), ?_⟩
    have l8 := putF_lt (f := "end_sent") (v := V.bl false) l7
    have fill8 := fill7 (V.bl false)
    generalize putF "end_sent" (V.bl false) f7 = f8 at *
    have c8 : Cells _ ([(e, HO.ins C.E de f8), (o, .lst []), (ar, .lst []), (rd, .lst [])] ++ L) := c7'.putU 0 (.ins C.E de f8) rfl
    refine ⟨_, rfl, e, _, de, _, rfl, c8.at_ 0 rfl, T.cE, T.nE_end_came, lt l8 (by decide), ?_⟩
    have l9 := putF_lt (f := "end_came") (v := V.bl false) l8
    have fill9 := fill8 (V.bl false)
    generalize putF "end_came" (V.bl false) f8 = f9 at *
    have c9 : Cells _ ([(e, HO.ins C.E de f9), (o, .lst []), (ar, .lst []), (rd, .lst [])] ++ L) := c8.putU 0 (.ins C.E de f9) rfl
    refine ⟨Nat.zero_le _, fun ks n10 sw dsw hsw hdsw hne => ⟨sw, dsw, ks, rfl, upd_same, rfl, ?_⟩⟩
    rw [upd_upd]
    have c10 := Cells.midU c9 (.lst []) n10
    have c11 : Cells _ ([(e, HO.ins C.E de f9), (o, .lst []), (ar, .lst []), (rd, .lst []), (ks, .lst [])] ++ (sw, .ins C.W dsw (wf (.ref ks) (.int 0) (.int 0))) :: L) :=
      Cells.mid (A := [(e, HO.ins C.E de f9), (o, .lst []), (ar, .lst []), (rd, .lst []), (ks, .lst [])]) (L := L) c10 (((Same.refl _).upd (o := .own sw) hdsw).upd hsw) hsw upd_same
    refine ⟨_, rfl, e, _, de, _, rfl, c11.at_ 0 rfl, T.cE, T.nE_sending, lt l9 (by decide), ?_⟩
    have l10 := putF_lt (f := "sending") (v := V.ref sw) l9
    have fill10 := fill9 (V.ref sw)
    generalize putF "sending" (V.ref sw) f9 = f10 at *
    have c12 : Cells _ ([(e, HO.ins C.E de f10), (o, .lst []), (ar, .lst []), (rd, .lst []), (ks, .lst []), (sw, .ins C.W dsw (wf (.ref ks) (.int 0) (.int 0)))] ++ L) := c11.putU 0 (.ins C.E de f10) rfl
    refine ⟨Nat.zero_le _, fun kr n13 rw drw hrw hdrw hne2 => ⟨rw, drw, kr, rfl, upd_same, rfl, ?_⟩⟩
    rw [upd_upd]
    have c13 := Cells.midU c12 (.lst []) n13
    have c14 : Cells _ ([(e, HO.ins C.E de f10), (o, .lst []), (ar, .lst []), (rd, .lst []), (ks, .lst []), (sw, .ins C.W dsw (wf (.ref ks) (.int 0) (.int 0))), (kr, .lst [])] ++ (rw, .ins C.W drw (wf (.ref kr) (.int 0) (.int 0))) :: L) :=
      Cells.mid (A := [(e, HO.ins C.E de f10), (o, .lst []), (ar, .lst []), (rd, .lst []), (ks, .lst []), (sw, .ins C.W dsw (wf (.ref ks) (.int 0) (.int 0))), (kr, .lst [])]) (L := L) c13 (((Same.refl _).upd (o := .own rw) hdrw).upd hrw) hrw upd_same
    refine ⟨_, rfl, e, _, de, _, rfl, c14.at_ 0 rfl, T.cE, T.nE_receiving, lt l10 (by decide), ?_⟩
    rw [fill10 (V.ref rw)]
    refine r _ ⟨e, de, o, ar, rd, ks, sw, dsw, kr, rw, drw, .non⟩ rfl rfl ?_
    exact c14.putU 0 (eObj C ⟨e, de, o, ar, rd, ks, sw, dsw, kr, rw, drw, .non⟩ Sf83.shut) rfl
theorem fills_nil : Fills [] := fun _ _ _ _ _ _ _ _ _ _ _ => ef_new
theorem fills_ef {u0 u1 u2 u3 u4 u5 u6 u7 u8 u9 u10 : V} : Fills (ef u0 u1 u2 u3 u4 u5 u6 u7 u8 u9 u10) := fun _ _ _ _ _ _ _ _ _ _ _ => ef_all
abbrev st_End_init : Stmt := inClass (top 80) 0
theorem sc_End_init : FnScope ["self"] ["self"] (defScope st_End_init) := ⟨rfl, rfl, rfl, by decide +kernel, rfl, by decide +kernel, by decide +kernel⟩
theorem bd_End_init : BindsOf "__init__" "End.__init__" st_End_init ["self"] := fun _ _ _ _ _ _ us hl => match us, hl with | [_], _ => rfl
def spEInit (C : Cs) : Sp := fun vs H Q _ => ∃ (e de : Addr) (L : List (Addr × HO)), vs = [.ref e] ∧ Cells H ((e, .ins C.E de []) :: L) ∧ ∀ (H' : Hp) (x' : EA), x'.e = e → x'.gr = .non → Cells H' (eCells C x' Sf83.shut ++ L) → Q .non H'
theorem ok_einit {f : Addr} {fd : FuncData} (F : Fun K "__init__" "End.__init__" st_End_init f fd) (G : Glb mg) (T : Txt K mg C) (F_reset : Mt P w K mg base C.E "reset" 3 ["self"] (spReset C)) : FnOk P w K mg base CX0 4 f fd ["self"] (spEInit C) := by
  refine F.ok sc_End_init (fun vs H Q E h => ?_) (fun cdv A outer s H vs Q E hr h => ?_)
  · obtain ⟨e, de, L, rfl, _⟩ := h
    rfl
  · obtain ⟨e, de, L, rfl, c, r⟩ := h
    refine ⟨_, (pss_one (ps_expr (pe_mtX0 (pv 0) T.cE F_reset hr (by decide) pass0))), ?_⟩
    exact ⟨_, rfl, e, de, _, rfl, c.at_ 0 rfl, rfl, e, de, [], L, rfl, c, by decide, fills_nil, r⟩
abbrev st_End_has_whole_record : Stmt := inClass (top 80) 20
theorem sc_End_has_whole_record : FnScope ["self"] ["self"] (defScope st_End_has_whole_record) := ⟨rfl, rfl, rfl, by decide +kernel, rfl, by decide +kernel, by decide +kernel⟩
theorem bd_End_has_whole_record : BindsOf "has_whole_record" "End.has_whole_record" st_End_has_whole_record ["self"] := fun _ _ _ _ _ _ us hl => match us, hl with | [_], _ => rfl
def spHas (C : Cs) : Sp := fun vs H Q E => ∃ (x : EA) (s : Sf83.S) (L : List (Addr × HO)), vs = [.ref x.e] ∧ Cells H (eCells C x s ++ L) ∧ (s.kept.length < 2 → Q (.bl false) H) ∧ (2 ≤ s.kept.length → (s.ended = true ∨ recLen s.kept < 17 ∨ 16401 < recLen s.kept) → Rais C.B E H) ∧
  (2 ≤ s.kept.length → s.ended = false → 17 ≤ recLen s.kept → recLen s.kept ≤ 16401 → Q (.bl (decide (2 + recLen s.kept ≤ s.kept.length))) H)
theorem ok_has {f : Addr} {fd : FuncData} (F : Fun K "has_whole_record" "End.has_whole_record" st_End_has_whole_record f fd) (G : Glb mg) (T : Txt K mg C) (F_rest_size : Fn1 P w K mg base "rest_size" 1 ["head"] (spRest K C)) : FnOk P w K mg base (CX1 P w) 2 f fd ["self"] (spHas C) := by
  refine F.ok1 sc_End_has_whole_record (fun vs H Q E h => ?_) (fun cdv A outer s H vs Q E hr h => ?_)
  · obtain ⟨x, s, L, rfl, _⟩ := h
    rfl
  · obtain ⟨x, st, L, rfl, c, r1, r2, r3⟩ := h
    refine ⟨_, (pss_cons (ps_if (pt_cmpR op_lt (pe_callB call_len_seq rfl G.len boot_len (pa_cons (pe_fld (pv 0) rfl) pa_nil)) (pe_gint G.HEAD_SIZE) (nomark _)) (pss_one (ps_ret pe_bl)) pss_nil) (pss_cons (ps_if (pt_truth (pe_fld (pv 0) rfl) (fun _ => rfl)) (pss_one (ps_raise0 T.exc hr.hd)) pss_nil) (pss_one (ps_ret (pe_cmpR op_ge (pe_callB call_len_seq rfl G.len boot_len (pa_cons (pe_fld (pv 0) rfl) pa_nil)) (pe_op op_add (pe_gint G.HEAD_SIZE) (pe_fnX F_rest_size hr (by decide) (pass1 fun _ _ _ h => h) (pa_cons (pe_fld (pv 0) rfl) pa_nil))) (nomark _)))))), ?_⟩
    refine ⟨_, rfl, _, _, _, _, _, rfl, c.e, T.cE, T.nE_arrived, ef_arrived, _, _, rfl, .inl (SqL.of c.ar), _, _, rfl, rfl, _, rfl, ifD (fun z => ?_) fun z => ?_⟩
    · exact r1 (by rw [bv_len] at z; omega)
    · have hl : 2 ≤ st.kept.length := by rw [bv_len] at z; omega
      refine ⟨_, rfl, _, _, _, _, _, rfl, c.e, T.cE, T.nE_end_came, ef_end_came, _, rfl, ?_⟩
      cases he : st.ended with
      | true => exact iteT (r2 hl (.inl he) H (Same.refl H))
      | false =>
        refine iteF ⟨_, rfl, _, _, _, _, _, rfl, c.e, T.cE, T.nE_arrived, ef_arrived, _, _, rfl, .inl (SqL.of c.ar), _, rfl, _, _, _, _, _, rfl, c.e, T.cE, T.nE_arrived, ef_arrived, x.ar, st.kept, rfl, SqL.of c.ar, hl, fun b => r2 hl (.inr b), fun h1 h2 => ?_⟩
        refine ⟨_, _, rfl, rfl, _, _, rfl, rfl, ?_⟩
        have q := r3 hl he h1 h2
        have e : decide ((2 : Int) + ((recLen st.kept : Nat) : Int) ≤ ((bv st.kept).length : Int)) = decide (2 + recLen st.kept ≤ st.kept.length) := decide_eq_decide.mpr (by rw [bv_len]; omega)
        show Q (.bl (decide ((2 : Int) + ((recLen st.kept : Nat) : Int) ≤ ((bv st.kept).length : Int)))) H
        rw [e]
        exact q
end
end S
set_option maxHeartbeats 800000
namespace S
open PySem PySem.Spec PyProof.Rows L2
theorem iteB {b : Bool} {A B : Prop} (h : b = true) (x : A) : if b = true then A else B := by rw [if_pos h]; exact x
theorem iteC {b : Bool} {A B : Prop} (h : b = false) (x : B) : if b = true then A else B := by rw [if_neg (by rw [h]; exact Bool.false_ne_true)]; exact x
theorem pick {H : Hp} {a1 a2 a3 a4 b1 b2 b3 b4 w2 k2 w1 k1 g1 g2 g3 g4 g5 g6 g7 m : Addr × HO} {L : List (Addr × HO)} (c : Cells H (a1 :: a2 :: a3 :: a4 :: b1 :: b2 :: b3 :: b4 :: w2 :: k2 :: w1 :: k1 :: g1 :: g2 :: g3 :: g4 :: g5 :: g6 :: g7 :: m :: L)) :
    Cells H ([a1, a2, a3, a4, k1, w1, k2, w2] ++ m :: L) ∧ Cells H ([a1, a2, a3, a4, k2, w2, k1, w1] ++ m :: L) := by
  have d : Cells H ([a1, a2, a3, a4] ++ ([w2, k2, w1, k1] ++ m :: L)) := by
    refine c.sub ?_
    refine .cons₂ _ (.cons₂ _ (.cons₂ _ (.cons₂ _ (.cons _ (.cons _ (.cons _ (.cons _ (.cons₂ _ (.cons₂ _ (.cons₂ _ (.cons₂ _ (.cons _ (.cons _ (.cons _ (.cons _ (.cons _ (.cons _ (.cons _ ?_))))))))))))))))))
    exact List.Sublist.refl _
  refine ⟨Cells.perm d (List.Perm.append_left _ (List.Perm.append_right (l₂ := [k1, w1, k2, w2]) _ ?_)), Cells.perm d (List.Perm.append_left _ (List.Perm.append_right (l₂ := [k2, w2, k1, w1]) _ ?_))⟩
  · exact List.reverse_perm [k1, w1, k2, w2]
  · exact (List.Perm.swap _ _ _).trans (.cons _ (.cons _ (List.Perm.swap _ _ _)))
def gCells (C : Cs) (g dg a b c op fp ch : Addr) (mine theirs fl pm pf chain : List UInt8) : List (Addr × HO) :=
  [(g, .ins C.G dg (gf (.ref a) (.ref b) (.ref c) (.ref op) (.ref fp) (.ref ch))), (a, .lst (bv mine)), (b, .lst (bv theirs)), (c, .lst (bv fl)), (op, .lst (bv pm)), (fp, .lst (bv pf)), (ch, .lst (bv chain))]
def MeetOk (first : Bool) (mine theirs fl pm pf chain msg c' add : List UInt8) : Prop :=
  (first = true ∧ Sf83.dhs ([msg.take 32].foldl Sf83.mixed chain) [(fl, msg.take 32), (mine, msg.take 32)] = some c' ∧ Sf83.proof c' = msg.drop 32 ∧ add = []) ∨
  (first = false ∧ ∃ c1, Sf83.dhs ([theirs, pm, msg.take 32].foldl Sf83.mixed chain) [(mine, msg.take 32), (mine, theirs)] = some c1 ∧ Sf83.proof c1 = msg.drop 32 ∧ Sf83.dhs ([pf].foldl Sf83.mixed c1) [(fl, msg.take 32), (fl, theirs)] = some c' ∧ add = pf ++ Sf83.proof c')
def MeetNo (first : Bool) (mine theirs fl pm pf chain msg : List UInt8) : Prop :=
  (first = true ∧ (Sf83.dhs ([msg.take 32].foldl Sf83.mixed chain) [(fl, msg.take 32), (mine, msg.take 32)] = none ∨ ∃ c', Sf83.dhs ([msg.take 32].foldl Sf83.mixed chain) [(fl, msg.take 32), (mine, msg.take 32)] = some c' ∧ Sf83.proof c' ≠ msg.drop 32)) ∨
  (first = false ∧ (Sf83.dhs ([theirs, pm, msg.take 32].foldl Sf83.mixed chain) [(mine, msg.take 32), (mine, theirs)] = none ∨ ∃ c1, Sf83.dhs ([theirs, pm, msg.take 32].foldl Sf83.mixed chain) [(mine, msg.take 32), (mine, theirs)] = some c1 ∧
    (Sf83.proof c1 ≠ msg.drop 32 ∨ Sf83.proof c1 = msg.drop 32 ∧ Sf83.dhs ([pf].foldl Sf83.mixed c1) [(fl, msg.take 32), (fl, theirs)] = none)))
def met (s : Sf83.S) (c' add : List UInt8) : Sf83.S := { s with phase := .sealed, out := s.out ++ add, sendKey := if s.first = true then Sf83.branch c' 1 else Sf83.branch c' 2, sendCount := 0, renewed := 0, takeKey := if s.first = true then Sf83.branch c' 2 else Sf83.branch c' 1, takeCount := 0, renewals := 0 }
section
variable {P : Program} {w : World} {K : PySem.W.Frag} {mg : Str → Option Value} {base : Heap} {C : Cs}
abbrev st_End_meet : Stmt := inClass (top 80) 19
theorem sc_End_meet : FnScope ["self", "message", "first_way", "second_way"] ["self", "message"] (defScope st_End_meet) := ⟨rfl, rfl, rfl, by decide +kernel, rfl, by decide +kernel, by decide +kernel⟩
theorem bd_End_meet : BindsOf "meet" "End.meet" st_End_meet ["self", "message"] := fun _ _ _ _ _ _ us hl => match us, hl with | [_, _], _ => rfl
def spMeet (C : Cs) : Sp := fun vs H Q E => ∃ (x : EA) (s : Sf83.S) (L : List (Addr × HO)) (g dg a b c op fp ch m : Addr) (mine theirs fl pm pf chain msg : List UInt8), vs = [.ref x.e, .ref m] ∧ x.gr = .ref g ∧ Cells H (eCells C x s ++ (gCells C g dg a b c op fp ch mine theirs fl pm pf chain ++ (m, .lst (bv msg)) :: L)) ∧
  mine.length = 32 ∧ theirs.length = 32 ∧ fl.length = 32 ∧ pm.length = 32 ∧ pf.length = 32 ∧ chain.length = 32 ∧ msg.length = 48 ∧ s.out.length ≤ 10000000 ∧
  (MeetNo s.first mine theirs fl pm pf chain msg → ∀ H', Cells H' (eCells C x s ++ (m, .lst (bv msg)) :: L) → E (.ref C.B) none H') ∧
  ∀ c' add, MeetOk s.first mine theirs fl pm pf chain msg c' add → ∀ (H' : Hp) (x' : EA), x'.e = x.e → x'.gr = .non → Cells H' (eCells C x' (met s c' add) ++ (m, .lst (bv msg)) :: L) → Q .non H'
theorem keep8 {H H' : Hp} {C : Cs} {x : EA} {s : Sf83.S} {g : Addr} {o : HO} {L : List (Addr × HO)} (c : Cells H (eCells C x s ++ (g, o) :: L)) (k : Keep H H' [g]) : Cells H' (eCells C x s ++ L) := by
  have c2 := Cells.perm c List.perm_middle
  refine ⟨(Cells.unmid c).1, fun y hy => k _ _ ((Cells.unmid c).2 y hy) fun z => ?_⟩
  have h := (List.nodup_cons.mp c2.1).1
  exact h (List.mem_map.mpr ⟨y, hy, List.mem_singleton.mp z⟩)
theorem ok_meet {f : Addr} {fd : FuncData} (F : Fun K "meet" "End.meet" st_End_meet f fd) (G : Glb mg) (T : Txt K mg C) (F_meet_second : Mt1 P w K mg base C.G "meet_second" 9 ["self", "message"] (spMeet2 K C)) (F_meet_first : Mt1 P w K mg base C.G "meet_first" 9 ["self", "message"] (spMeet1 K C))
    (F_message : Mt P w K mg base C.G "message" 8 ["self"] (spMsg K C)) (F_key_of_way : Fn P w K mg base "key_of_way" 6 ["chain", "number"] (spKeyW K)) (M_Way : MkX P w K mg base "Way" C.W 1 ["self", "key"] (spWInit C)) : FnOk P w K mg base (CX1 P w) 10 f fd ["self", "message"] (spMeet C) := by
  refine F.ok1 sc_End_meet (fun vs H Q E h => ?_) (fun cdv A outer s H vs Q E hr h => ?_)
  · obtain ⟨x, s, L, g, dg, a, b, c, op, fp, ch, m, mine, theirs, fl, pm, pf, chain, msg, rfl, _⟩ := h
    rfl
  · obtain ⟨x, st, L, g, dg, a, b, c, op, fp, ch, m, mine, theirs, fl, pm, pf, chain, msg, rfl, eg, c0, l1, l2, l3, l4, l5, l6, lm, lo, r1, r2⟩ := h
    obtain ⟨e, de, o, ar, rd, ks, sw, dsw, kr, rw, drw, gr⟩ := x
    dsimp only at eg
    subst eg
    refine ⟨_, (pss_cons (ps_if (pt_truth (pe_fld (pv 0) rfl) (fun _ => rfl)) (pss_one (ps_expr (pe_mtX (pe_fld (pv 0) rfl) T.cG F_meet_second hr (by decide) (pass1 fun _ _ _ h => h) (pa_cons (pv 1) pa_nil)))) (pss_cons (ps_expr (pe_mtX (pe_fld (pv 0) rfl) T.cG F_meet_first hr (by decide) (pass1 fun _ _ _ h => h) (pa_cons (pv 1) pa_nil))) (pss_one (ps_expr (pe_bm PySem.F.plainAttrs_list PySem.F.slot_list_extend PySem.F.type_list_extend mt_extend (pe_fld (pv 0) rfl) (pa_cons (pe_mtX0 (pe_fld (pv 0) rfl) T.cG F_message hr (by decide) pass0) pa_nil)))))) (pss_cons (ps_set (i := 2) sc_End_meet.nd rfl (Or.inl rfl) (pe_mk M_Way hr (pa_cons (pe_fn F_key_of_way hr (pa_cons (pe_fld (pe_fld (pv 0) rfl) rfl) (pa_cons (pe_gint G.FIRST_SENDS) pa_nil))) pa_nil))) (pss_cons (ps_set (i := 3) sc_End_meet.nd rfl (Or.inl rfl) (pe_mk M_Way hr (pa_cons (pe_fn F_key_of_way hr (pa_cons (pe_fld (pe_fld (pv 0) rfl) rfl) (pa_cons (pe_gint G.SECOND_SENDS) pa_nil))) pa_nil))) (pss_cons (ps_fld (pv 0) (pe_ifExp (pt_truth (pe_fld (pv 0) rfl) (fun _ => rfl)) (pv 2) (pv 3)) rfl) (pss_cons (ps_fld (pv 0) (pe_ifExp (pt_truth (pe_fld (pv 0) rfl) (fun _ => rfl)) (pv 3) (pv 2)) rfl) (pss_cons (ps_fld (pv 0) pe_non rfl) (pss_one (ps_fld (pv 0) (pe_gint G.SEALED) rfl)))))))), ?_⟩
    have B : GrAt K C H g dg a b c op fp ch mine theirs fl pm pf chain := ⟨c0.at_ 8 rfl, ⟨SqL.of (c0.at_ 9 rfl), l1⟩, ⟨SqL.of (c0.at_ 10 rfl), l2⟩, ⟨SqL.of (c0.at_ 11 rfl), l3⟩, ⟨SqL.of (c0.at_ 12 rfl), l4⟩, c0.at_ 13 rfl, l5, ⟨SqL.of (c0.at_ 14 rfl), l6⟩⟩
    have hm : H m = some (.lst (bv msg)) := c0.at_ 15 rfl
    refine ⟨_, rfl, _, _, _, _, _, rfl, c0.e, T.cE, T.nE_leads, ef_leads, _, rfl, ?_⟩
    have no : ∀ H', Keep H H' [g] → Cells H' (eCells C ⟨e, de, o, ar, rd, ks, sw, dsw, kr, rw, drw, .ref g⟩ st ++ (m, .lst (bv msg)) :: L) := fun H' k => by
      have c1 := keep8 (g := g) c0 k
      exact c1.sub (List.Sublist.append (List.Sublist.refl _) (.cons _ (.cons _ (.cons _ (.cons _ (.cons _ (.cons _ (List.Sublist.refl _))))))))
    by_cases hb : st.first = true
    · refine iteB hb ?_
      refine ⟨_, rfl, _, _, _, _, _, rfl, c0.e, T.cE, T.nE_greeting, ef_greeting, _, _, _, rfl, B.obj, gf_no (by decide +kernel), _, rfl, g, dg, a, b, c, op, fp, ch, m, mine, theirs, fl, pm, pf, chain, msg, rfl, B, hm, lm, fun z H' k => ?_, fun c' hc => ⟨fun z H' k => ?_, fun z H1 ch' k1 o1 n1 e1 lc' => ?_⟩⟩
      · exact r1 (.inl ⟨hb, .inl z⟩) H' (no H' k)
      · exact r1 (.inl ⟨hb, .inr ⟨c', hc, z⟩⟩) H' (no H' k)
      have c1 : Cells H1 (eCells C ⟨e, de, o, ar, rd, ks, sw, dsw, kr, rw, drw, .ref g⟩ st ++ (gCells C g dg a b c op fp ch' mine theirs fl pm pf c' ++ (m, .lst (bv msg)) :: L)) := by
        refine (c0.put 8 rfl k1 o1).repl 14 (.inl ?_) e1
        rw [map_fst_set (o := .ins C.G dg (gf (.ref a) (.ref b) (.ref c) (.ref op) (.ref fp) (.ref ch))) rfl]
        exact c0.notin n1
      have SK : met st c' [] = { st with phase := .sealed, out := st.out ++ [], sendKey := Sf83.branch c' 1, sendCount := 0, renewed := 0, takeKey := Sf83.branch c' 2, takeCount := 0, renewals := 0 } := by
        unfold met
        rw [if_pos hb, if_pos hb]
      have TK : st.out ++ [] = st.out := List.append_nil _
      generalize hb1 : Sf83.branch c' 1 = b1 at *
      generalize hb2 : Sf83.branch c' 2 = b2 at *
      refine ⟨_, rfl, _, _, _, _, _, rfl, c1.e, T.cE, T.nE_greeting, ef_greeting, _, _, _, _, _, rfl, (c1.at_ 8 rfl), T.cG, T.nG_chain, gf_chain, ch', c', 1, rfl, ⟨SqL.of (c1.at_ 14 rfl), lc'⟩, fun H2 k1 s2 n2 e2 w1 dw1 hw1 hdw1 hne1 => ⟨w1, dw1, k1, rfl, upd_same, rfl, ?_⟩⟩
      rw [upd_upd]
      rw [hb1] at e2
      have c2 := Cells.mid (A := eCells C ⟨e, de, o, ar, rd, ks, sw, dsw, kr, rw, drw, .ref g⟩ st) c1 s2 n2 e2
      have c3 := Cells.mid (A := eCells C ⟨e, de, o, ar, rd, ks, sw, dsw, kr, rw, drw, .ref g⟩ st) (o := .ins C.W dw1 (wf (.ref k1) (.int 0) (.int 0))) c2 (((Same.refl _).upd (o := .own w1) hdw1).upd hw1) hw1 upd_same
      try dsimp only [L2.start, Z1, Z2, Z3, Z4, Z5, Z6, List.replicate, Z7, Z8, Nat.reduceAdd, Nat.reduceSub, Nat.zero_add]
      refine ⟨_, rfl, _, _, _, _, _, rfl, c3.e, T.cE, T.nE_greeting, ef_greeting, _, _, _, _, _, rfl, (c3.at_ 10 rfl), T.cG, T.nG_chain, gf_chain, ch', c', 2, rfl, ⟨SqL.of (c3.at_ 16 rfl), lc'⟩, fun H4 k2 s4 n4 e4 w2 dw2 hw2 hdw2 hne2 => ⟨w2, dw2, k2, rfl, upd_same, rfl, ?_⟩⟩
      rw [upd_upd]
      rw [hb2] at e4
      have c4 := Cells.mid (A := eCells C ⟨e, de, o, ar, rd, ks, sw, dsw, kr, rw, drw, .ref g⟩ st) c3 s4 n4 e4
      have c5 := Cells.mid (A := eCells C ⟨e, de, o, ar, rd, ks, sw, dsw, kr, rw, drw, .ref g⟩ st) (o := .ins C.W dw2 (wf (.ref k2) (.int 0) (.int 0))) c4 (((Same.refl _).upd (o := .own w2) hdw2).upd hw2) hw2 upd_same
      generalize upd (upd H4 dw2 (.own w2)) w2 (.ins C.W dw2 (wf (.ref k2) (.int 0) (.int 0))) = H5 at *
      try dsimp only [L2.start, Z1, Z2, Z3, Z4, Z5, Z6, List.replicate, Z7, Z8, Nat.reduceAdd, Nat.reduceSub, Nat.zero_add]
      refine ⟨_, rfl, _, _, _, _, _, rfl, c5.e, T.cE, T.nE_leads, ef_leads, _, rfl, iteB hb ⟨_, rfl, _, rfl, _, _, _, _, rfl, c5.e, T.cE, T.nE_sending, (by show 11 < 1000; decide), ?_⟩⟩
      rw [ef_put_sending]
      have c6 := c5.putU 0 (.ins C.E de (ef (.int (Sf83.phaseOf st.phase : Nat)) (.bl st.first) (.int (st.every : Nat)) (.ref g) (.ref o) (.ref ar) (.ref rd) (.bl st.over) (.bl st.ended) (.ref w1) (.ref rw))) rfl
      have f6 := c6.at_ 0 (a := e) rfl
      refine ⟨_, rfl, _, _, _, _, _, rfl, f6, T.cE, T.nE_leads, ef_leads, _, rfl, iteB hb ⟨_, rfl, _, rfl, _, _, _, _, rfl, f6, T.cE, T.nE_receiving, (by show 11 < 1000; decide), ?_⟩⟩
      rw [ef_put_receiving, upd_upd]
      refine ⟨_, rfl, _, _, _, _, rfl, upd_same, T.cE, T.nE_greeting, (by show 11 < 1000; decide), ?_⟩
      rw [ef_put_greeting, upd_upd]
      refine ⟨_, rfl, _, _, _, _, rfl, upd_same, T.cE, T.nE_phase, (by show 11 < 1000; decide), ?_⟩
      rw [ef_put_phase, upd_upd]
      refine r2 c' [] (.inl ⟨hb, hc, z, rfl⟩) _ ⟨e, de, o, ar, rd, k1, w1, dw1, k2, w2, dw2, .non⟩ rfl rfl ?_
      have c9 := c5.putU 0 (.ins C.E de (ef (.int 2) (.bl st.first) (.int (st.every : Nat)) .non (.ref o) (.ref ar) (.ref rd) (.bl st.over) (.bl st.ended) (.ref w1) (.ref w2))) rfl
      rw [SK, TK]
      exact (pick c9).1
    · have hb : st.first = false := by
        cases h : st.first with
        | true => exact absurd h hb
        | false => rfl
      refine iteC hb ?_
      refine ⟨_, rfl, _, _, _, _, _, rfl, c0.e, T.cE, T.nE_greeting, ef_greeting, _, _, _, rfl, B.obj, gf_no (by decide +kernel), _, rfl, g, dg, a, b, c, op, fp, ch, m, mine, theirs, fl, pm, pf, chain, msg, rfl, B, hm, lm, fun z H' k => ?_, fun c2 hc => ⟨fun z H' k => ?_, fun z => ⟨fun z2 H' k => ?_, fun c' hc' H1 ch' k1 o1 n1 e1 lc' => ?_⟩⟩⟩
      · exact r1 (.inr ⟨hb, .inl z⟩) H' (no H' k)
      · exact r1 (.inr ⟨hb, .inr ⟨c2, hc, .inl z⟩⟩) H' (no H' k)
      · exact r1 (.inr ⟨hb, .inr ⟨c2, hc, .inr ⟨z, z2⟩⟩⟩) H' (no H' k)
      have c1 : Cells H1 (eCells C ⟨e, de, o, ar, rd, ks, sw, dsw, kr, rw, drw, .ref g⟩ st ++ (gCells C g dg a b c op fp ch' mine theirs fl pm pf c' ++ (m, .lst (bv msg)) :: L)) := by
        refine (c0.put 8 rfl k1 o1).repl 14 (.inl ?_) e1
        rw [map_fst_set (o := .ins C.G dg (gf (.ref a) (.ref b) (.ref c) (.ref op) (.ref fp) (.ref ch))) rfl]
        exact c0.notin n1
      have B1 : GrAt K C H1 g dg a b c op fp ch' mine theirs fl pm pf c' := ⟨c1.at_ 8 rfl, ⟨SqL.of (c1.at_ 9 rfl), l1⟩, ⟨SqL.of (c1.at_ 10 rfl), l2⟩, ⟨SqL.of (c1.at_ 11 rfl), l3⟩, ⟨SqL.of (c1.at_ 12 rfl), l4⟩, c1.at_ 13 rfl, l5, ⟨SqL.of (c1.at_ 14 rfl), lc'⟩⟩
      have lp := proof_len c'
      have SK0 : met st c' (pf ++ Sf83.proof c') = { st with phase := .sealed, out := st.out ++ (pf ++ Sf83.proof c'), sendKey := Sf83.branch c' 2, sendCount := 0, renewed := 0, takeKey := Sf83.branch c' 1, takeCount := 0, renewals := 0 } := by
        unfold met
        rw [if_neg (by rw [hb]; exact Bool.false_ne_true), if_neg (by rw [hb]; exact Bool.false_ne_true)]
      have mok : MeetOk st.first mine theirs fl pm pf chain msg c' (pf ++ Sf83.proof c') := .inr ⟨hb, c2, hc, z, hc', rfl⟩
      refine ⟨_, rfl, _, _, _, _, _, rfl, c1.e, T.cE, T.nE_outgoing, ef_outgoing, .inl ⟨rfl, _, SqL.of c1.o⟩, _, rfl, _, _, _, _, _, rfl, c1.e, T.cE, T.nE_greeting, ef_greeting, _, _, _, rfl, B1.obj, gf_no (by decide +kernel), g, dg, a, b, c, op, fp, ch', mine, theirs, fl, pm, pf, c', rfl, B1, fun H2 p2 s2 n2 e2 => ?_⟩
      generalize Sf83.proof c' = pr at *
      generalize hb1 : Sf83.branch c' 1 = b1 at *
      generalize hb2 : Sf83.branch c' 2 = b2 at *
      have c1' := c1.same s2
      refine ⟨o, p2, _, _, rfl, rfl, c1'.o, e2, by rw [bv_len, bv_len, List.length_append, lp, l5, sizeLine_eq]; omega, ?_⟩
      rw [← bv_app]
      have c1 : Cells _ (eCells C ⟨e, de, o, ar, rd, ks, sw, dsw, kr, rw, drw, .ref g⟩ { st with out := st.out ++ (pf ++ pr) } ++ (gCells C g dg a b c op fp ch' mine theirs fl pm pf c' ++ (m, .lst (bv msg)) :: L)) := c1'.putU 1 (.lst (bv (st.out ++ (pf ++ pr)))) rfl
      generalize upd H2 o (.lst (bv (st.out ++ (pf ++ pr)))) = H3 at *
      refine ⟨_, rfl, _, _, _, _, _, rfl, c1.e, T.cE, T.nE_greeting, ef_greeting, _, _, _, _, _, rfl, (c1.at_ 8 rfl), T.cG, T.nG_chain, gf_chain, ch', c', 1, rfl, ⟨SqL.of (c1.at_ 14 rfl), lc'⟩, fun H2 k1 s2 n2 e2 w1 dw1 hw1 hdw1 hne1 => ⟨w1, dw1, k1, rfl, upd_same, rfl, ?_⟩⟩
      rw [upd_upd]
      rw [hb1] at e2
      have c2 := Cells.mid (A := eCells C ⟨e, de, o, ar, rd, ks, sw, dsw, kr, rw, drw, .ref g⟩ { st with out := st.out ++ (pf ++ pr) }) c1 s2 n2 e2
      have c3 := Cells.mid (A := eCells C ⟨e, de, o, ar, rd, ks, sw, dsw, kr, rw, drw, .ref g⟩ { st with out := st.out ++ (pf ++ pr) }) (o := .ins C.W dw1 (wf (.ref k1) (.int 0) (.int 0))) c2 (((Same.refl _).upd (o := .own w1) hdw1).upd hw1) hw1 upd_same
      try dsimp only [L2.start, Z1, Z2, Z3, Z4, Z5, Z6, List.replicate, Z7, Z8, Nat.reduceAdd, Nat.reduceSub, Nat.zero_add]
      refine ⟨_, rfl, _, _, _, _, _, rfl, c3.e, T.cE, T.nE_greeting, ef_greeting, _, _, _, _, _, rfl, (c3.at_ 10 rfl), T.cG, T.nG_chain, gf_chain, ch', c', 2, rfl, ⟨SqL.of (c3.at_ 16 rfl), lc'⟩, fun H4 k2 s4 n4 e4 w2 dw2 hw2 hdw2 hne2 => ⟨w2, dw2, k2, rfl, upd_same, rfl, ?_⟩⟩
      rw [upd_upd]
      rw [hb2] at e4
      have c4 := Cells.mid (A := eCells C ⟨e, de, o, ar, rd, ks, sw, dsw, kr, rw, drw, .ref g⟩ { st with out := st.out ++ (pf ++ pr) }) c3 s4 n4 e4
      have c5 := Cells.mid (A := eCells C ⟨e, de, o, ar, rd, ks, sw, dsw, kr, rw, drw, .ref g⟩ { st with out := st.out ++ (pf ++ pr) }) (o := .ins C.W dw2 (wf (.ref k2) (.int 0) (.int 0))) c4 (((Same.refl _).upd (o := .own w2) hdw2).upd hw2) hw2 upd_same
      generalize upd (upd H4 dw2 (.own w2)) w2 (.ins C.W dw2 (wf (.ref k2) (.int 0) (.int 0))) = H5 at *
      try dsimp only [L2.start, Z1, Z2, Z3, Z4, Z5, Z6, List.replicate, Z7, Z8, Nat.reduceAdd, Nat.reduceSub, Nat.zero_add]
      refine ⟨_, rfl, _, _, _, _, _, rfl, c5.e, T.cE, T.nE_leads, ef_leads, _, rfl, iteC hb ⟨_, rfl, _, rfl, _, _, _, _, rfl, c5.e, T.cE, T.nE_sending, (by show 11 < 1000; decide), ?_⟩⟩
      rw [ef_put_sending]
      have c6 := c5.putU 0 (.ins C.E de (ef (.int (Sf83.phaseOf st.phase : Nat)) (.bl st.first) (.int (st.every : Nat)) (.ref g) (.ref o) (.ref ar) (.ref rd) (.bl st.over) (.bl st.ended) (.ref w2) (.ref rw))) rfl
      have f6 := c6.at_ 0 (a := e) rfl
      refine ⟨_, rfl, _, _, _, _, _, rfl, f6, T.cE, T.nE_leads, ef_leads, _, rfl, iteC hb ⟨_, rfl, _, rfl, _, _, _, _, rfl, f6, T.cE, T.nE_receiving, (by show 11 < 1000; decide), ?_⟩⟩
      rw [ef_put_receiving, upd_upd]
      refine ⟨_, rfl, _, _, _, _, rfl, upd_same, T.cE, T.nE_greeting, (by show 11 < 1000; decide), ?_⟩
      rw [ef_put_greeting, upd_upd]
      refine ⟨_, rfl, _, _, _, _, rfl, upd_same, T.cE, T.nE_phase, (by show 11 < 1000; decide), ?_⟩
      rw [ef_put_phase, upd_upd]
      refine r2 c' (pf ++ pr) mok _ ⟨e, de, o, ar, rd, k2, w2, dw2, k1, w1, dw1, .non⟩ rfl rfl ?_
      have c9 := c5.putU 0 (.ins C.E de (ef (.int 2) (.bl st.first) (.int (st.every : Nat)) .non (.ref o) (.ref ar) (.ref rd) (.bl st.over) (.bl st.ended) (.ref w2) (.ref w1))) rfl
      rw [SK0]
      exact (pick c9).2
end
end S
set_option maxHeartbeats 400000
namespace M
open Sf83
theorem go_eq (f : Nat) (s : S) : S.go (f + 1) s = (match s.phase with
    | .shut => s
    | .broken => { s with kept := [] }
    | .waits =>
      if s.kept.length < 48 then s else
      let e := s.kept.take 32
      let p := (s.kept.drop 32).take 16
      let t : S := { s with kept := s.kept.drop 48 }
      if s.first = true then (match dhs (mixed s.chain e) [(s.fleeting, e), (s.mine, e)] with
        | none => s.break_
        | some c => if proof c = p then S.go f (t.ready c) else s.break_)
      else match dhs (mixed s.chain e) [(s.mine, e), (s.mine, s.theirs)] with
        | none => s.break_
        | some c => if proof c ≠ p then s.break_ else
          let m := publicOf s.fleeting
          match dhs (mixed c m) [(s.fleeting, e), (s.fleeting, s.theirs)] with
          | none => s.break_
          | some d => S.go f ({ t with out := t.out ++ (m ++ proof d) }.ready d)
    | .sealed =>
      if s.kept.length < 2 then s else
      let h := s.kept.take 2
      let n := (h.headD 0).toNat * 256 + ((h.drop 1).headD 0).toNat
      if n < 17 ∨ MOST + 17 < n ∨ s.ended = true then s.break_
      else if s.kept.length < 2 + n then s
      else match opened s.takeKey (nonce s.takeCount) h ((s.kept.drop 2).take n) with
        | none => s.break_
        | some b =>
          let t : S := { s with kept := s.kept.drop (2 + n), takeCount := s.takeCount + 1 }
          match b with
          | [] => s.break_
          | k :: d =>
            if k = 0 ∧ d ≠ [] then S.go f { t with plain := t.plain ++ d }
            else if k = 1 ∧ d = [] then S.go f { t with takeKey := branch t.takeKey 3, takeCount := 0, renewals := t.renewals + 1 }
            else if k = 2 ∧ d = [] then S.go f { t with ended := true }
            else s.break_) := by
  delta S.go
  have h : ∀ (g : (t : Nat) → Nat.below (motive := fun _ => S → S) t → S → S), Nat.brecOn (motive := fun _ => S → S) (f + 1) g s = g (f + 1) ⟨Nat.brecOn (motive := fun _ => S → S) f g, (Nat.rec (motive := fun t => (fun _ => S → S) t ×' Nat.below (motive := fun _ => S → S) t) ⟨g 0 PUnit.unit, PUnit.unit⟩ (fun n ih => ⟨g (n + 1) ih, ih⟩) f).2⟩ s := fun g => rfl
  rw [h]
  generalize Nat.brecOn (motive := fun _ => S → S) f S.go._f = G
  generalize (Nat.rec (motive := fun t => (fun _ => S → S) t ×' Nat.below (motive := fun _ => S → S) t) ⟨S.go._f 0 PUnit.unit, PUnit.unit⟩ (fun n ih => ⟨S.go._f (n + 1) ih, ih⟩) f).2 = B
  delta S.go._f
  generalize dhs = d1
  generalize proof = d2
  generalize publicOf = d3
  generalize opened = d4
  generalize nonce = d5
  generalize branch = d6
  generalize mixed = d7
  rfl
end M
namespace S
open PySem PySem.Spec PyProof.Rows L2
theorem recLen_take (b : List UInt8) : recLen (b.take 2) = recLen b := by
  match b with
  | [] => rfl
  | [_] => rfl
  | _ :: _ :: _ => rfl
theorem go_sealed {f : Nat} {s : Sf83.S} (hp : s.phase = .sealed) : Sf83.S.go (f + 1) s =
    if s.kept.length < 2 then s else if recLen (s.kept.take 2) < 17 ∨ Sf83.MOST + 17 < recLen (s.kept.take 2) ∨ s.ended = true then s.break_
    else if s.kept.length < 2 + recLen (s.kept.take 2) then s
    else match Sf83.opened s.takeKey (Sf83.nonce s.takeCount) (s.kept.take 2) ((s.kept.drop 2).take (recLen (s.kept.take 2))) with
      | none => s.break_
      | some b => match b with
        | [] => s.break_
        | k :: d =>
          if k = 0 ∧ d ≠ [] then Sf83.S.go f { s with kept := s.kept.drop (2 + recLen (s.kept.take 2)), takeCount := s.takeCount + 1, plain := s.plain ++ d }
          else if k = 1 ∧ d = [] then Sf83.S.go f { s with kept := s.kept.drop (2 + recLen (s.kept.take 2)), takeKey := Sf83.branch s.takeKey 3, takeCount := 0, renewals := s.renewals + 1 }
          else if k = 2 ∧ d = [] then Sf83.S.go f { s with kept := s.kept.drop (2 + recLen (s.kept.take 2)), takeCount := s.takeCount + 1, ended := true }
          else s.break_ := by
  rw [M.go_eq, hp]
  generalize Sf83.S.go f = G
  generalize Sf83.opened = d4
  generalize Sf83.dhs = d1
  generalize Sf83.proof = d2
  generalize Sf83.publicOf = d3
  generalize Sf83.branch = d6
  generalize Sf83.nonce = d5
  rfl
section
variable {f : Nat} {s : Sf83.S}
theorem go_short (hp : s.phase = .sealed) (h : s.kept.length < 2) : Sf83.S.go (f + 1) s = s := by
  rw [go_sealed hp, if_pos h]
theorem go_bad (hp : s.phase = .sealed) (h : 2 ≤ s.kept.length) (hb : s.ended = true ∨ recLen s.kept < 17 ∨ 16401 < recLen s.kept) : Sf83.S.go (f + 1) s = s.break_ := by
  rw [go_sealed hp, if_neg (by omega), recLen_take, if_pos]
  show recLen s.kept < 17 ∨ 16401 < recLen s.kept ∨ s.ended = true
  rcases hb with z | z | z
  · exact .inr (.inr z)
  · exact .inl z
  · exact .inr (.inl z)
theorem go_fine (hp : s.phase = .sealed) (h : 2 ≤ s.kept.length) (h1 : s.ended = false) (h2 : 17 ≤ recLen s.kept) (h3 : recLen s.kept ≤ 16401) :
    ¬ (recLen (s.kept.take 2) < 17 ∨ Sf83.MOST + 17 < recLen (s.kept.take 2) ∨ s.ended = true) := by
  rw [recLen_take, h1]
  rintro (z | z | z)
  · omega
  · have z : 16384 + 17 < recLen s.kept := z
    omega
  · cases z
theorem go_wait (hp : s.phase = .sealed) (h : 2 ≤ s.kept.length) (h1 : s.ended = false) (h2 : 17 ≤ recLen s.kept) (h3 : recLen s.kept ≤ 16401) (h4 : s.kept.length < 2 + recLen s.kept) : Sf83.S.go (f + 1) s = s := by
  rw [go_sealed hp, if_neg (by omega), if_neg (go_fine hp h h1 h2 h3), recLen_take, if_pos h4]
theorem go_none (hp : s.phase = .sealed) (h : 2 ≤ s.kept.length) (h1 : s.ended = false) (h2 : 17 ≤ recLen s.kept) (h3 : recLen s.kept ≤ 16401) (h4 : 2 + recLen s.kept ≤ s.kept.length)
    (ho : Sf83.opened s.takeKey (Sf83.nonce s.takeCount) (s.kept.take 2) ((s.kept.drop 2).take (recLen s.kept)) = none) : Sf83.S.go (f + 1) s = s.break_ := by
  rw [go_sealed hp, if_neg (by omega), if_neg (go_fine hp h h1 h2 h3), recLen_take, if_neg (by omega), ho]
theorem go_unfit (hp : s.phase = .sealed) (h : 2 ≤ s.kept.length) (h1 : s.ended = false) (h2 : 17 ≤ recLen s.kept) (h3 : recLen s.kept ≤ 16401) (h4 : 2 + recLen s.kept ≤ s.kept.length) {k : UInt8} {d : List UInt8}
    (ho : Sf83.opened s.takeKey (Sf83.nonce s.takeCount) (s.kept.take 2) ((s.kept.drop 2).take (recLen s.kept)) = some (k :: d)) (hg : ¬ Good k.toNat d) : Sf83.S.go (f + 1) s = s.break_ := by
  rw [go_sealed hp, if_neg (by omega), if_neg (go_fine hp h h1 h2 h3), recLen_take, if_neg (by omega), ho]
  show (if k = 0 ∧ d ≠ [] then _ else if k = 1 ∧ d = [] then _ else if k = 2 ∧ d = [] then _ else s.break_) = s.break_
  rw [if_neg, if_neg, if_neg]
  · rintro ⟨rfl, z⟩; exact hg (.inr (.inr ⟨rfl, z⟩))
  · rintro ⟨rfl, z⟩; exact hg (.inr (.inl ⟨rfl, z⟩))
  · rintro ⟨rfl, z⟩; exact hg (.inl ⟨rfl, z⟩)
def taken (s : Sf83.S) (n k : Nat) (d : List UInt8) : Sf83.S :=
  received { s with kept := (s.kept.drop 2).drop n, takeKey := wayKey k s.takeKey, takeCount := wayCount k s.takeCount, renewals := wayNew k s.renewals } k d
theorem go_rec (hp : s.phase = .sealed) (h : 2 ≤ s.kept.length) (h1 : s.ended = false) (h2 : 17 ≤ recLen s.kept) (h3 : recLen s.kept ≤ 16401) (h4 : 2 + recLen s.kept ≤ s.kept.length) {k : UInt8} {d : List UInt8}
    (ho : Sf83.opened s.takeKey (Sf83.nonce s.takeCount) (s.kept.take 2) ((s.kept.drop 2).take (recLen s.kept)) = some (k :: d)) (hg : Good k.toNat d) : Sf83.S.go (f + 1) s = Sf83.S.go f (taken s (recLen s.kept) k.toNat d) := by
  rw [go_sealed hp, if_neg (by omega), if_neg (go_fine hp h h1 h2 h3), recLen_take, if_neg (by omega), ho]
  generalize Sf83.S.go f = G
  generalize recLen s.kept = n
  show (if k = 0 ∧ d ≠ [] then G { s with kept := s.kept.drop (2 + n), takeCount := s.takeCount + 1, plain := s.plain ++ d } else if k = 1 ∧ d = [] then G { s with kept := s.kept.drop (2 + n), takeKey := Sf83.branch s.takeKey 3, takeCount := 0, renewals := s.renewals + 1 } else if k = 2 ∧ d = [] then G { s with kept := s.kept.drop (2 + n), takeCount := s.takeCount + 1, ended := true } else s.break_) = _
  have e0 : (s.kept.drop 2).drop n = s.kept.drop (2 + n) := List.drop_drop
  unfold taken received wayKey wayCount wayNew
  rw [e0]
  generalize Sf83.branch s.takeKey 3 = bk
  rcases hg with ⟨z, z'⟩ | ⟨z, z'⟩ | ⟨z, z'⟩
  · have e : k = 0 := UInt8.toNat_inj.mp z
    subst e
    rw [if_pos ⟨rfl, z'⟩]
    rfl
  · have e : k = 1 := UInt8.toNat_inj.mp z
    subst e
    rw [if_neg (fun y => absurd y.1 (by decide)), if_pos ⟨rfl, z'⟩]
    rfl
  · have e : k = 2 := UInt8.toNat_inj.mp z
    subst e
    rw [if_neg (fun y => absurd y.1 (by decide)), if_neg (fun y => absurd y.1 (by decide)), if_pos ⟨rfl, z'⟩]
    rfl
end
theorem go_waits {f : Nat} {s : Sf83.S} (hp : s.phase = .waits) : Sf83.S.go (f + 1) s =
    if s.kept.length < 48 then s else
      if s.first = true then (match Sf83.dhs (Sf83.mixed s.chain (s.kept.take 32)) [(s.fleeting, s.kept.take 32), (s.mine, s.kept.take 32)] with
        | none => s.break_
        | some c => if Sf83.proof c = (s.kept.drop 32).take 16 then Sf83.S.go f (({ s with kept := s.kept.drop 48 } : Sf83.S).ready c) else s.break_)
      else match Sf83.dhs (Sf83.mixed s.chain (s.kept.take 32)) [(s.mine, s.kept.take 32), (s.mine, s.theirs)] with
        | none => s.break_
        | some c => if Sf83.proof c ≠ (s.kept.drop 32).take 16 then s.break_ else
          match Sf83.dhs (Sf83.mixed c (Sf83.publicOf s.fleeting)) [(s.fleeting, s.kept.take 32), (s.fleeting, s.theirs)] with
          | none => s.break_
          | some d => Sf83.S.go f (({ s with kept := s.kept.drop 48, out := s.out ++ (Sf83.publicOf s.fleeting ++ Sf83.proof d) } : Sf83.S).ready d) := by
  rw [M.go_eq, hp]
def Greets (C : Cs) (x : EA) (s : Sf83.S) (LG : List (Addr × HO)) : Prop :=
  (s.phase ≠ .waits ∧ x.gr = .non ∧ LG = []) ∨
  (s.phase = .waits ∧ ∃ g dg a b c op fp ch, x.gr = .ref g ∧ LG = gCells C g dg a b c op fp ch s.mine s.theirs s.fleeting (Sf83.publicOf s.mine) (Sf83.publicOf s.fleeting) (if s.first = true then s.chain else Sf83.BEGIN))
structure Fit (s : Sf83.S) : Prop where
  keys : s.phase = .sealed → s.sendKey.length = 32 ∧ s.takeKey.length = 32
  zero : s.phase = .waits → s.sendCount = 0 ∧ s.renewed = 0 ∧ s.takeCount = 0 ∧ s.renewals = 0
  lens : s.phase = .waits → s.mine.length = 32 ∧ s.theirs.length = 32 ∧ s.fleeting.length = 32
  chn1 : s.phase = .waits → s.first = true → s.chain.length = 32
  chn2 : s.phase = .waits → s.first = false → s.chain = Sf83.chainOf s.theirs (Sf83.publicOf s.mine)
theorem msg_take (b : List UInt8) : (b.take 48).take 32 = b.take 32 := by rw [List.take_take]; rfl
theorem msg_drop (b : List UInt8) : (b.take 48).drop 32 = (b.drop 32).take 16 := by rw [List.drop_take]
def gChain (s : Sf83.S) : List UInt8 := if s.first = true then s.chain else Sf83.BEGIN
theorem go_meet_no {f : Nat} {s : Sf83.S} (hp : s.phase = .waits) (F : Fit s) (hl : ¬ s.kept.length < 48) (h : MeetNo s.first s.mine s.theirs s.fleeting (Sf83.publicOf s.mine) (Sf83.publicOf s.fleeting) (gChain s) (s.kept.take 48)) : Sf83.S.go (f + 1) s = s.break_ := by
  rw [go_waits hp, if_neg hl]
  unfold MeetNo gChain at h
  rw [msg_take, msg_drop] at h
  generalize s.kept.take 32 = e at *
  generalize (s.kept.drop 32).take 16 = p at *
  rcases h with ⟨hb, h⟩ | ⟨hb, h⟩
  · rw [if_pos hb] at h ⊢
    rw [List.foldl_cons, List.foldl_nil] at h
    generalize Sf83.dhs = DH at *
    generalize Sf83.proof = PR at *
    generalize Sf83.S.go f = GO at *
    rcases h with z | ⟨c', z, z2⟩
    · rw [z]
    · rw [z]
      dsimp only
      rw [if_neg z2]
  · have hb' : ¬ s.first = true := by rw [hb]; exact Bool.false_ne_true
    rw [if_neg hb'] at h ⊢
    have ec := F.chn2 hp hb
    simp only [List.foldl_cons, List.foldl_nil] at h
    have ec2 : Sf83.mixed (Sf83.mixed (Sf83.mixed Sf83.BEGIN s.theirs) (Sf83.publicOf s.mine)) e = Sf83.mixed s.chain e := by rw [ec, Sf83.chainOf]
    rw [ec2] at h
    generalize Sf83.dhs = DH at *
    generalize Sf83.proof = PR at *
    generalize Sf83.publicOf = PU at *
    generalize Sf83.mixed = MX at *
    generalize Sf83.S.go f = GO at *
    rcases h with z | ⟨c1, z, z2⟩
    · rw [z]
    · rw [z]
      dsimp only
      rcases z2 with z2 | ⟨z2, z3⟩
      · rw [if_pos z2]
      · rw [if_neg (fun y => y z2), z3]
theorem go_meet_ok {f : Nat} {s : Sf83.S} (hp : s.phase = .waits) (F : Fit s) (hl : ¬ s.kept.length < 48) {c' add : List UInt8} (h : MeetOk s.first s.mine s.theirs s.fleeting (Sf83.publicOf s.mine) (Sf83.publicOf s.fleeting) (gChain s) (s.kept.take 48) c' add) :
    Sf83.S.go (f + 1) s = Sf83.S.go f (({ s with kept := s.kept.drop 48, out := s.out ++ add } : Sf83.S).ready c') := by
  rw [go_waits hp, if_neg hl]
  unfold MeetOk gChain at h
  rw [msg_take, msg_drop] at h
  generalize s.kept.take 32 = e at *
  generalize (s.kept.drop 32).take 16 = p at *
  rcases h with ⟨hb, h1, h2, rfl⟩ | ⟨hb, c1, h1, h2, h3, h4⟩
  · rw [if_pos hb] at h1 ⊢
    rw [List.foldl_cons, List.foldl_nil] at h1
    generalize Sf83.dhs = DH at *
    generalize Sf83.proof = PR at *
    generalize Sf83.S.go f = GO at *
    rw [h1]
    dsimp only
    rw [if_pos h2, List.append_nil]
  · have hb' : ¬ s.first = true := by rw [hb]; exact Bool.false_ne_true
    rw [if_neg hb'] at h1 ⊢
    have ec := F.chn2 hp hb
    rw [List.foldl_cons, List.foldl_cons, List.foldl_cons, List.foldl_nil] at h1
    rw [List.foldl_cons, List.foldl_nil] at h3
    have ec2 : Sf83.mixed (Sf83.mixed (Sf83.mixed Sf83.BEGIN s.theirs) (Sf83.publicOf s.mine)) e = Sf83.mixed s.chain e := by rw [ec, Sf83.chainOf]
    rw [ec2] at h1
    subst h4
    generalize Sf83.dhs = DH at *
    generalize Sf83.proof = PR at *
    generalize Sf83.publicOf = PU at *
    generalize Sf83.mixed = MX at *
    generalize Sf83.S.go f = GO at *
    rw [h1]
    dsimp only
    rw [if_neg (fun y => y h2), h3]
theorem go_waits_short {f : Nat} {s : Sf83.S} (hp : s.phase = .waits) (hl : s.kept.length < 48) : Sf83.S.go (f + 1) s = s := by
  rw [go_waits hp, if_pos hl]
theorem met_cells (C : Cs) (x : EA) {s : Sf83.S} (h : s.sendCount = 0 ∧ s.renewed = 0 ∧ s.takeCount = 0 ∧ s.renewals = 0) (c' add : List UInt8) : eCells C x (met s c' add) = eCells C x (({ s with out := s.out ++ add } : Sf83.S).ready c') := by
  obtain ⟨h1, h2, h3, h4⟩ := h
  unfold met Sf83.S.ready eCells eObj
  generalize Sf83.branch c' 1 = b1
  generalize Sf83.branch c' 2 = b2
  rw [h1, h2, h3, h4]
end S
set_option maxHeartbeats 800000
namespace L2
open PySem PySem.Spec PyProof.Rows S
theorem Cells.mid4 {C : Cs} {H H' : Hp} {x : EA} {s : Sf83.S} {L : List (Addr × HO)} {k : Nat} {kl' p : Addr} {o : HO} (c : Cells H (eCells C x s ++ L)) (st : Stepped C H x.rw x.drw x.kr s.takeKey s.takeCount s.renewals k H' kl')
    (c4 : Cells H' (eCells C { x with kr := kl' } { s with takeKey := wayKey k s.takeKey, takeCount := wayCount k s.takeCount, renewals := wayNew k s.renewals } ++ L)) (n : H p = none) (e : H' p = some o) (ne : p ≠ kl') :
    Cells H' (eCells C { x with kr := kl' } { s with takeKey := wayKey k s.takeKey, takeCount := wayCount k s.takeCount, renewals := wayNew k s.renewals } ++ (p, o) :: L) := by
  refine Cells.perm (c4.cons (fun z => ?_) e) List.perm_middle.symm
  have h := c.notin n
  rw [List.map_append, List.mem_append] at z h
  rcases z with z | z
  · simp only [eCells, List.map_cons, List.map_nil, List.mem_cons, List.not_mem_nil, or_false] at z h
    rcases z with z | z | z | z | z | z | z | z
    · exact h (.inl (.inl z))
    · exact h (.inl (.inr (.inl z)))
    · exact h (.inl (.inr (.inr (.inl z))))
    · exact h (.inl (.inr (.inr (.inr (.inl z)))))
    · exact h (.inl (.inr (.inr (.inr (.inr (.inl z))))))
    · exact h (.inl (.inr (.inr (.inr (.inr (.inr (.inl z)))))))
    · exact ne z
    · exact h (.inl (.inr (.inr (.inr (.inr (.inr (.inr (.inr z))))))))
  · exact h (.inr z)
end L2
namespace S
open PySem PySem.Spec PyProof.Rows L2
theorem taken_phase (s : Sf83.S) (n k : Nat) (d : List UInt8) : (taken s n k d).phase = s.phase := by
  unfold taken received
  split
  · rfl
  · split <;> rfl
theorem taken_send (s : Sf83.S) (n k : Nat) (d : List UInt8) : (taken s n k d).sendKey = s.sendKey := by
  unfold taken received
  split
  · rfl
  · split <;> rfl
theorem taken_take (s : Sf83.S) (n k : Nat) (d : List UInt8) : (taken s n k d).takeKey = wayKey k s.takeKey := by
  unfold taken received
  generalize wayKey k s.takeKey = wk
  split
  · rfl
  · split <;> rfl
theorem taken_kept (s : Sf83.S) (n k : Nat) (d : List UInt8) : (taken s n k d).kept = (s.kept.drop 2).drop n := by
  unfold taken received
  split
  · rfl
  · split <;> rfl
theorem taken_plain (s : Sf83.S) (n k : Nat) (d : List UInt8) : (taken s n k d).plain.length ≤ s.plain.length + d.length := by
  unfold taken received
  split
  · show (s.plain ++ d).length ≤ _
    rw [List.length_append]
    exact Nat.le_refl _
  · split
    · exact Nat.le_add_right _ _
    · exact Nat.le_add_right _ _
section
variable {P : Program} {w : World} {K : PySem.W.Frag} {mg : Str → Option Value} {base : Heap} {C : Cs}
abbrev st_End_go_through : Stmt := inClass (top 80) 17
theorem sc_End_go_through : FnScope ["self", "head"] ["self"] (defScope st_End_go_through) := ⟨rfl, rfl, rfl, by decide +kernel, rfl, by decide +kernel, by decide +kernel⟩
theorem bd_End_go_through : BindsOf "go_through" "End.go_through" st_End_go_through ["self"] := fun _ _ _ _ _ _ us hl => match us, hl with | [_], _ => rfl
def spGo (C : Cs) : Sp := fun vs H Q E => ∃ (x : EA) (s : Sf83.S) (L LG : List (Addr × HO)) (f : Nat), vs = [.ref x.e] ∧ Greets C x s LG ∧ Fit s ∧ (s.phase = .waits ∨ s.phase = .sealed) ∧ Cells H (eCells C x s ++ (LG ++ L)) ∧ s.kept.length + 2 ≤ f ∧ s.out.length ≤ 9000000 ∧ s.plain.length + s.kept.length ≤ 1000000 ∧
  ((Sf83.S.go f s).phase = .broken → ∀ (H' : Hp) (x' : EA) (s' : Sf83.S), x'.e = x.e → Cells H' (eCells C x' s' ++ L) → s'.break_ = Sf83.S.go f s → E (.ref C.B) none H') ∧
  ((Sf83.S.go f s).phase ≠ .broken → ∀ (H' : Hp) (x' : EA) (LG' : List (Addr × HO)), x'.e = x.e → Greets C x' (Sf83.S.go f s) LG' → Cells H' (eCells C x' (Sf83.S.go f s) ++ (LG' ++ L)) → Q .non H')
theorem ok_go {f : Addr} {fd : FuncData} (F : Fun K "go_through" "End.go_through" st_End_go_through f fd) (G : Glb mg) (T : Txt K mg C) (F_meet : Mt1 P w K mg base C.E "meet" 10 ["self", "message"] (spMeet C)) (F_arrived_part : Mt P w K mg base C.E "arrived_part" 1 ["self", "size"] (spPart C))
    (F_has_whole_record : Mt1 P w K mg base C.E "has_whole_record" 2 ["self"] (spHas C)) (F_receive : Mt P w K mg base C.E "receive" 1 ["self", "inner"] (spReceive C)) (F_content : Mt1 P w K mg base C.W "content" 8 ["self", "head", "rest"] (spInner K C)) (F_rest_size : Fn1 P w K mg base "rest_size" 1 ["head"] (spRest K C)) :
    FnOk P w K mg base (CX1 P w) 11 f fd ["self"] (spGo C) := by
  refine F.ok1 sc_End_go_through (fun vs H Q E h => ?_) (fun cdv A outer s H vs Q E hr h => ?_)
  · obtain ⟨x, s, L, LG, f, rfl, _⟩ := h
    rfl
  · obtain ⟨x, st, L, LG, fu, rfl, GR, FT, hph, c, hfu, lo, lb, r1, r2⟩ := h
    refine ⟨_, (pss_cons (ps_if (pt_cmpR op_eq (pe_fld (pv 0) rfl) (pe_gint G.WAITING) (nomark _)) (pss_cons (ps_if (pt_cmpR op_lt (pe_callB call_len_seq rfl G.len boot_len (pa_cons (pe_fld (pv 0) rfl) pa_nil)) (pe_gint G.MESSAGE_SIZE) (nomark _)) (pss_one ps_retN) pss_nil) (pss_one (ps_expr (pe_mtX (pv 0) T.cE F_meet hr (by decide) (pass1 fun _ _ _ h => h) (pa_cons (pe_mtX (pv 0) T.cE F_arrived_part hr (by decide) pass0 (pa_cons (pe_gint G.MESSAGE_SIZE) pa_nil)) pa_nil))))) pss_nil) (pss_one (ps_while own1 (pt_truth (pe_mtX0 (pv 0) T.cE F_has_whole_record hr (by decide) (pass1 fun _ _ _ h => h)) (fun _ => rfl)) (pss_cons (ps_set (i := 1) sc_End_go_through.nd rfl (Or.inl rfl) (pe_mtX (pv 0) T.cE F_arrived_part hr (by decide) pass0 (pa_cons (pe_gint G.HEAD_SIZE) pa_nil))) (pss_one (ps_expr (pe_mtX (pv 0) T.cE F_receive hr (by decide) pass0 (pa_cons (pe_mtX (pe_fld (pv 0) rfl) T.cW F_content hr (by decide) (pass1 fun _ _ _ h => h) (pa_cons (pv 1) (pa_cons (pe_mtX (pv 0) T.cE F_arrived_part hr (by decide) pass0 (pa_cons (pe_fnX F_rest_size hr (by decide) (pass1 fun _ _ _ h => h) (pa_cons (pv 1) pa_nil)) pa_nil)) pa_nil))) pa_nil)))))))), ?_⟩
    refine ⟨_, rfl, _, _, _, _, _, rfl, c.e, T.cE, T.nE_phase, ef_phase, rfl, _, rfl, ifE (fun z => ?_) fun z => ?_⟩
    · have hw : st.phase = .waits := (ph_waits st).mp z
      obtain ⟨fu, rfl⟩ : ∃ g, fu = g + 1 := ⟨fu - 1, by omega⟩
      refine ⟨_, rfl, _, _, _, _, _, rfl, c.e, T.cE, T.nE_arrived, ef_arrived, _, _, rfl, .inl (SqL.of c.ar), _, _, rfl, rfl, _, rfl, ifD (fun z2 => ?_) fun z2 => ?_⟩
      · have hs : Sf83.S.go (fu + 1) st = st := go_waits_short hw (by rw [bv_len] at z2; omega)
        rw [hs] at r2
        exact r2 (by rw [hw]; intro z; cases z) H x LG rfl GR c
      · have hl : ¬ st.kept.length < 48 := fun y => z2 (by rw [bv_len]; omega)
        have meetno := go_meet_no (f := fu) hw FT hl
        have meetok := fun c' add => go_meet_ok (f := fu) hw FT hl (c' := c') (add := add)
        rcases GR with ⟨h, _⟩ | ⟨_, g, dg, a, b, cc, op, fp, ch, eg, rfl⟩
        · exact absurd hw h
        obtain ⟨l1, l2, l3⟩ := FT.lens hw
        have zr := FT.zero hw
        have lg : (if st.first = true then st.chain else Sf83.BEGIN).length = 32 := by
          by_cases hb : st.first = true
          · rw [if_pos hb]; exact FT.chn1 hw hb
          · rw [if_neg hb]; rfl
        have lpm : (Sf83.publicOf st.mine).length = 32 := M.point_len _ _
        have lpf : (Sf83.publicOf st.fleeting).length = 32 := M.point_len _ _
        change MeetNo _ _ _ _ _ _ (if st.first = true then st.chain else Sf83.BEGIN) _ → _ at meetno
        change ∀ c' add, MeetOk _ _ _ _ _ _ (if st.first = true then st.chain else Sf83.BEGIN) _ c' add → _ at meetok
        generalize (if st.first = true then st.chain else Sf83.BEGIN) = chn at *
        generalize Sf83.publicOf st.mine = pm at *
        generalize Sf83.publicOf st.fleeting = pf at *
        refine ⟨_, rfl, _, _, _, rfl, c.e, ef_no (by decide +kernel), _, rfl, _, _, _, rfl, c.e, ef_no (by decide +kernel), x, st, _, 48, rfl, c, fun H1 x1 p1 e1 g1 w1 c1 => ?_⟩
        have c1' : Cells H1 (eCells C x1 { st with kept := st.kept.drop 48 } ++ (gCells C g dg a b cc op fp ch st.mine st.theirs st.fleeting pm pf chn ++ (p1, .lst (bv (st.kept.take 48))) :: L)) := Cells.perm c1 (List.Perm.append_left _ List.perm_middle.symm)
        refine ⟨x1, { st with kept := st.kept.drop 48 }, L, g, dg, a, b, cc, op, fp, ch, p1, st.mine, st.theirs, st.fleeting, pm, pf, chn, st.kept.take 48, by rw [e1]; rfl, g1.trans eg, c1', l1, l2, l3, lpm, lpf, lg, by rw [List.length_take]; omega, by show st.out.length ≤ _; omega, fun no H2 c2 => ?_, fun c' add ok H2 x2 e2 g2 c2 => ?_⟩
        · rw [meetno no] at r1
          exact r1 rfl H2 x1 _ e1 (Cells.unmid c2) rfl
        · have c3 := Cells.unmid c2
          rw [met_cells C x2 (s := { st with kept := st.kept.drop 48 }) zr] at c3
          have hk : ((({ st with kept := st.kept.drop 48, out := st.out ++ add } : Sf83.S).ready c')).sendKey.length = 32 ∧ ((({ st with kept := st.kept.drop 48, out := st.out ++ add } : Sf83.S).ready c')).takeKey.length = 32 := by
            have b1 := branch_len c' 1
            have b2 := branch_len c' 2
            show (if st.first = true then Sf83.branch c' 1 else Sf83.branch c' 2).length = 32 ∧ (if st.first = true then Sf83.branch c' 2 else Sf83.branch c' 1).length = 32
            generalize Sf83.branch c' 1 = q1 at *
            generalize Sf83.branch c' 2 = q2 at *
            split
            · exact ⟨b1, b2⟩
            · exact ⟨b2, b1⟩
          rw [meetok c' add ok] at r1 r2
          have f1 : ((({ st with kept := st.kept.drop 48, out := st.out ++ add } : Sf83.S).ready c')).kept = st.kept.drop 48 := rfl
          have f2 : ((({ st with kept := st.kept.drop 48, out := st.out ++ add } : Sf83.S).ready c')).plain = st.plain := rfl
          have f3 : ((({ st with kept := st.kept.drop 48, out := st.out ++ add } : Sf83.S).ready c')).phase = .sealed := rfl
          change Cells H2 (eCells C x2 ((({ st with kept := st.kept.drop 48, out := st.out ++ add } : Sf83.S).ready c')) ++ L) at c3
          generalize ((({ st with kept := st.kept.drop 48, out := st.out ++ add } : Sf83.S).ready c')) = s1 at *
          generalize ht : Sf83.S.go fu s1 = t at *
          refine ⟨fun m σ H' => ∃ (x' : EA) (s' : Sf83.S) (f' : Nat) (v1 : Option V), σ = [some (.ref x'.e), v1] ∧ x'.e = x.e ∧ x'.gr = .non ∧ Cells H' (eCells C x' s' ++ L) ∧ s'.phase = .sealed ∧ s'.sendKey.length = 32 ∧ s'.takeKey.length = 32 ∧ Sf83.S.go f' s' = t ∧ s'.kept.length + 1 ≤ f' ∧ s'.plain.length + s'.kept.length ≤ 1000000 ∧ m = s'.kept.length,
            ⟨_, x2, s1, fu, none, by rw [e2, e1]; rfl, e2.trans e1, g2, c3, f3, hk.1, hk.2, ht, by rw [f1, List.length_drop]; omega, by rw [f1, f2, List.length_drop]; omega, rfl⟩, ?_⟩
          rintro m σ H' ⟨x', s', f', v1, rfl, ee, eg, c', hp, lk, lt, hgo, hf, hb, rfl⟩
          obtain ⟨f', rfl⟩ : ∃ g, f' = g + 1 := ⟨f' - 1, by omega⟩
          have stay : Sf83.S.go (f' + 1) s' = s' → Q .non H' := fun hs => by
            rw [hs] at hgo
            rw [← hgo] at r2
            exact r2 (by rw [hp]; intro z; cases z) H' x' [] ee (.inl ⟨(by rw [hp]; intro z; cases z), eg, rfl⟩) c'
          have brk : ∀ (s2 : Sf83.S) (x2 : EA) (H2 : Hp), Sf83.S.go (f' + 1) s' = s'.break_ → s2.break_ = s'.break_ → x2.e = x.e → Cells H2 (eCells C x2 s2 ++ L) → E (.ref C.B) none H2 := fun s2 x2 H2 hs h2 e2 c2 => by
            rw [hs] at hgo
            rw [← hgo] at r1
            exact r1 rfl H2 x2 s2 e2 c2 h2
          refine ⟨_, rfl, _, _, _, rfl, c'.e, ef_no (by decide +kernel), x', s', L, rfl, c', fun z => ?_, fun z1 z2 H2 s2 => ?_, fun z1 z2 z3 z4 => ?_⟩
          · exact ⟨_, rfl, iteF (stay (go_short hp z))⟩
          · exact brk s' x' H2 (go_bad hp z1 z2) rfl ee (c'.same s2)
          · refine ⟨_, rfl, ifD (fun hw => ?_) fun hw => stay (go_wait hp z1 z2 z3 z4 (by omega))⟩
            refine ⟨fun σ2 H2 => ∃ (x2 : EA) (s2 : Sf83.S) (v1 : Option V), σ2 = [some (.ref x2.e), v1] ∧ x2.e = x.e ∧ x2.gr = .non ∧ Cells H2 (eCells C x2 s2 ++ L) ∧ s2.phase = .sealed ∧ s2.sendKey.length = 32 ∧ s2.takeKey.length = 32 ∧ Sf83.S.go f' s2 = t ∧ s2.kept.length + 1 ≤ f' ∧ s2.plain.length + s2.kept.length ≤ 1000000 ∧ s2.kept.length < s'.kept.length,
              fun σ2 H2 ⟨x2, s2, v1, a1, a2, a3, a4, a5, a6, a7, a8, a9, a10, a11⟩ => ⟨_, a11, x2, s2, f', v1, a1, a2, a3, a4, a5, a6, a7, a8, a9, a10, rfl⟩, ?_⟩
            refine ⟨_, rfl, _, _, _, rfl, c'.e, ef_no (by decide +kernel), x', s', L, 2, rfl, c', fun H2 x2 p2 e2 g2 w2 c2 => ?_⟩
            try dsimp only [L2.start, Z1, Z2, Z3, Z4, Z5, Z6, List.replicate, Z7, Z8, Nat.reduceAdd, Nat.reduceSub, Nat.zero_add]
            have c2e := c2.e
            rw [e2] at c2e
            have hn := recLen_take s'.kept
            refine ⟨_, rfl, _, _, _, rfl, c2e, ef_no (by decide +kernel), _, rfl, _, _, _, _, _, rfl, c2e, T.cE, T.nE_receiving, ef_receiving, _, _, _, rfl, c2.rw.obj, wf_no (by decide +kernel), _, rfl, _, rfl, _, _, _, rfl, c2e, ef_no (by decide +kernel), _, rfl, p2, s'.kept.take 2, rfl, SqL.of c2.memb, by rw [List.length_take]; omega, fun z => ?_, fun l1 l2 => ?_⟩
            · exact absurd z (by rw [hn]; omega)
            rw [hn]
            refine ⟨x2, _, _, recLen s'.kept, by rw [e2]; rfl, c2, fun H3 x3 p3 e3 g3 w3 c3 => ?_⟩
            have h2f : H3 p2 = some (.lst (bv (s'.kept.take 2))) := c3.at_ 9 rfl
            have lr : ((s'.kept.drop 2).take (recLen s'.kept)).length = recLen s'.kept := by
              rw [List.length_take, List.length_drop]
              omega
            have ok3 := Cells.unmid (Cells.unmid c3)
            have no := go_none (f := f') hp z1 z2 z3 z4 hw
            have unf := fun k d => go_unfit (f := f') hp z1 z2 z3 z4 hw (k := k) (d := d)
            have fit := fun k d => go_rec (f := f') hp z1 z2 z3 z4 hw (k := k) (d := d)
            have ol : ∀ y, Sf83.opened s'.takeKey (Sf83.nonce s'.takeCount) (s'.kept.take 2) ((s'.kept.drop 2).take (recLen s'.kept)) = some y → y.length + 16 = recLen s'.kept := fun y h => (opened_len h).trans lr
            refine ⟨x3.rw, x3.drw, x3.kr, p2, p3, s'.takeKey, s'.kept.take 2, (s'.kept.drop 2).take (recLen s'.kept), s'.takeCount, s'.renewals, by rw [w3]; rfl, c3.rw, lt, h2f, by rw [List.length_take]; omega, SqL.of c3.memb, by rw [lr]; omega, by rw [lr]; omega, fun h H4 s4 => ?_, fun k d h => ⟨fun g H4 s4 => ?_, fun g H4 kl' p4 st n4 q4 ne4 => ?_⟩⟩
            · exact brk { s' with kept := (s'.kept.drop 2).drop (recLen s'.kept) } x3 H4 (no h) rfl (e3.trans (e2.trans ee)) (ok3.same s4)
            · exact brk { s' with kept := (s'.kept.drop 2).drop (recLen s'.kept) } x3 H4 (unf k d h g) rfl (e3.trans (e2.trans ee)) (ok3.same s4)
            · have hgo2 := (fit k d h g).symm.trans hgo
              have hl := ol _ h
              have hl' : d.length + 1 + 16 = recLen s'.kept := hl
              have c4 := c3.stepR st
              have c5 := Cells.mid4 c3 st c4 n4 q4 ne4
              refine ⟨{ x3 with kr := kl' }, _, _, p4, k, d, by show [V.ref x'.e, V.ref p4] = [V.ref x3.e, V.ref p4]; rw [e3, e2], c5, ?_, fun H5 x5 e5 g5 c6 => ?_⟩
              · show s'.plain.length + d.length ≤ 10000000
                omega
              · have c7 := Cells.unmid (Cells.unmid (Cells.unmid c6))
                refine ⟨x5, taken s' (recLen s'.kept) k.toNat d, some (.ref p2), ?_, e5.trans (e3.trans (e2.trans ee)), g5.trans (g3.trans (g2.trans eg)), c7, ?_, ?_, ?_, hgo2, ?_, ?_, ?_⟩
                · rw [show x5.e = x'.e from e5.trans (e3.trans e2)]; rfl
                · rw [taken_phase]; exact hp
                · rw [taken_send]; exact lk
                · rw [taken_take]; exact wayKey_len lt
                · rw [taken_kept, List.length_drop, List.length_drop]; omega
                · rw [taken_kept, List.length_drop, List.length_drop]
                  have hp2 := taken_plain s' (recLen s'.kept) k.toNat d
                  omega
                · rw [taken_kept, List.length_drop, List.length_drop]; omega
    · have hs : st.phase = .sealed := by
        rcases hph with h | h
        · exact absurd ((ph_waits st).mpr h) z
        · exact h
      rcases GR with ⟨_, eg, rfl⟩ | ⟨h, _⟩
      · generalize ht : Sf83.S.go fu st = t at *
        refine ⟨fun m σ H' => ∃ (x' : EA) (s' : Sf83.S) (f' : Nat) (v1 : Option V), σ = [some (.ref x'.e), v1] ∧ x'.e = x.e ∧ x'.gr = .non ∧ Cells H' (eCells C x' s' ++ L) ∧ s'.phase = .sealed ∧ s'.sendKey.length = 32 ∧ s'.takeKey.length = 32 ∧ Sf83.S.go f' s' = t ∧ s'.kept.length + 1 ≤ f' ∧ s'.plain.length + s'.kept.length ≤ 1000000 ∧ m = s'.kept.length,
          ⟨_, x, st, fu, none, rfl, rfl, eg, c, hs, (FT.keys hs).1, (FT.keys hs).2, ht, by omega, lb, rfl⟩, ?_⟩
        rintro m σ H' ⟨x', s', f', v1, rfl, ee, eg, c', hp, lk, lt, hgo, hf, hb, rfl⟩
        obtain ⟨f', rfl⟩ : ∃ g, f' = g + 1 := ⟨f' - 1, by omega⟩
        have stay : Sf83.S.go (f' + 1) s' = s' → Q .non H' := fun hs => by
          rw [hs] at hgo
          rw [← hgo] at r2
          exact r2 (by rw [hp]; intro z; cases z) H' x' [] ee (.inl ⟨(by rw [hp]; intro z; cases z), eg, rfl⟩) c'
        have brk : ∀ (s2 : Sf83.S) (x2 : EA) (H2 : Hp), Sf83.S.go (f' + 1) s' = s'.break_ → s2.break_ = s'.break_ → x2.e = x.e → Cells H2 (eCells C x2 s2 ++ L) → E (.ref C.B) none H2 := fun s2 x2 H2 hs h2 e2 c2 => by
          rw [hs] at hgo
          rw [← hgo] at r1
          exact r1 rfl H2 x2 s2 e2 c2 h2
        refine ⟨_, rfl, _, _, _, rfl, c'.e, ef_no (by decide +kernel), x', s', L, rfl, c', fun z => ?_, fun z1 z2 H2 s2 => ?_, fun z1 z2 z3 z4 => ?_⟩
        · exact ⟨_, rfl, iteF (stay (go_short hp z))⟩
        · exact brk s' x' H2 (go_bad hp z1 z2) rfl ee (c'.same s2)
        · refine ⟨_, rfl, ifD (fun hw => ?_) fun hw => stay (go_wait hp z1 z2 z3 z4 (by omega))⟩
          refine ⟨fun σ2 H2 => ∃ (x2 : EA) (s2 : Sf83.S) (v1 : Option V), σ2 = [some (.ref x2.e), v1] ∧ x2.e = x.e ∧ x2.gr = .non ∧ Cells H2 (eCells C x2 s2 ++ L) ∧ s2.phase = .sealed ∧ s2.sendKey.length = 32 ∧ s2.takeKey.length = 32 ∧ Sf83.S.go f' s2 = t ∧ s2.kept.length + 1 ≤ f' ∧ s2.plain.length + s2.kept.length ≤ 1000000 ∧ s2.kept.length < s'.kept.length,
            fun σ2 H2 ⟨x2, s2, v1, a1, a2, a3, a4, a5, a6, a7, a8, a9, a10, a11⟩ => ⟨_, a11, x2, s2, f', v1, a1, a2, a3, a4, a5, a6, a7, a8, a9, a10, rfl⟩, ?_⟩
          refine ⟨_, rfl, _, _, _, rfl, c'.e, ef_no (by decide +kernel), x', s', L, 2, rfl, c', fun H2 x2 p2 e2 g2 w2 c2 => ?_⟩
          try dsimp only [L2.start, Z1, Z2, Z3, Z4, Z5, Z6, List.replicate, Z7, Z8, Nat.reduceAdd, Nat.reduceSub, Nat.zero_add]
          have c2e := c2.e
          rw [e2] at c2e
          have hn := recLen_take s'.kept
          refine ⟨_, rfl, _, _, _, rfl, c2e, ef_no (by decide +kernel), _, rfl, _, _, _, _, _, rfl, c2e, T.cE, T.nE_receiving, ef_receiving, _, _, _, rfl, c2.rw.obj, wf_no (by decide +kernel), _, rfl, _, rfl, _, _, _, rfl, c2e, ef_no (by decide +kernel), _, rfl, p2, s'.kept.take 2, rfl, SqL.of c2.memb, by rw [List.length_take]; omega, fun z => ?_, fun l1 l2 => ?_⟩
          · exact absurd z (by rw [hn]; omega)
          rw [hn]
          refine ⟨x2, _, _, recLen s'.kept, by rw [e2]; rfl, c2, fun H3 x3 p3 e3 g3 w3 c3 => ?_⟩
          have h2f : H3 p2 = some (.lst (bv (s'.kept.take 2))) := c3.at_ 9 rfl
          have lr : ((s'.kept.drop 2).take (recLen s'.kept)).length = recLen s'.kept := by
            rw [List.length_take, List.length_drop]
            omega
          have ok3 := Cells.unmid (Cells.unmid c3)
          have no := go_none (f := f') hp z1 z2 z3 z4 hw
          have unf := fun k d => go_unfit (f := f') hp z1 z2 z3 z4 hw (k := k) (d := d)
          have fit := fun k d => go_rec (f := f') hp z1 z2 z3 z4 hw (k := k) (d := d)
          have ol : ∀ y, Sf83.opened s'.takeKey (Sf83.nonce s'.takeCount) (s'.kept.take 2) ((s'.kept.drop 2).take (recLen s'.kept)) = some y → y.length + 16 = recLen s'.kept := fun y h => (opened_len h).trans lr
          refine ⟨x3.rw, x3.drw, x3.kr, p2, p3, s'.takeKey, s'.kept.take 2, (s'.kept.drop 2).take (recLen s'.kept), s'.takeCount, s'.renewals, by rw [w3]; rfl, c3.rw, lt, h2f, by rw [List.length_take]; omega, SqL.of c3.memb, by rw [lr]; omega, by rw [lr]; omega, fun h H4 s4 => ?_, fun k d h => ⟨fun g H4 s4 => ?_, fun g H4 kl' p4 st n4 q4 ne4 => ?_⟩⟩
          · exact brk { s' with kept := (s'.kept.drop 2).drop (recLen s'.kept) } x3 H4 (no h) rfl (e3.trans (e2.trans ee)) (ok3.same s4)
          · exact brk { s' with kept := (s'.kept.drop 2).drop (recLen s'.kept) } x3 H4 (unf k d h g) rfl (e3.trans (e2.trans ee)) (ok3.same s4)
          · have hgo2 := (fit k d h g).symm.trans hgo
            have hl := ol _ h
            have hl' : d.length + 1 + 16 = recLen s'.kept := hl
            have c4 := c3.stepR st
            have c5 := Cells.mid4 c3 st c4 n4 q4 ne4
            refine ⟨{ x3 with kr := kl' }, _, _, p4, k, d, by show [V.ref x'.e, V.ref p4] = [V.ref x3.e, V.ref p4]; rw [e3, e2], c5, ?_, fun H5 x5 e5 g5 c6 => ?_⟩
            · show s'.plain.length + d.length ≤ 10000000
              omega
            · have c7 := Cells.unmid (Cells.unmid (Cells.unmid c6))
              refine ⟨x5, taken s' (recLen s'.kept) k.toNat d, some (.ref p2), ?_, e5.trans (e3.trans (e2.trans ee)), g5.trans (g3.trans (g2.trans eg)), c7, ?_, ?_, ?_, hgo2, ?_, ?_, ?_⟩
              · rw [show x5.e = x'.e from e5.trans (e3.trans e2)]; rfl
              · rw [taken_phase]; exact hp
              · rw [taken_send]; exact lk
              · rw [taken_take]; exact wayKey_len lt
              · rw [taken_kept, List.length_drop, List.length_drop]; omega
              · rw [taken_kept, List.length_drop, List.length_drop]
                have hp2 := taken_plain s' (recLen s'.kept) k.toNat d
                omega
              · rw [taken_kept, List.length_drop, List.length_drop]; omega
      · rw [hs] at h
        cases h
end
end S
set_option maxHeartbeats 400000
namespace S
open PySem PySem.Spec PyProof.Rows L2
def Post (C : Cs) (e : Addr) (s' : Sf83.S) (L : List (Addr × HO)) (Q : Hp → Prop) : Prop := ∀ (H' : Hp) (x' : EA) (LG' : List (Addr × HO)), x'.e = e → Greets C x' s' LG' → Cells H' (eCells C x' s' ++ (LG' ++ L)) → Q H'
theorem does_came (s : Sf83.S) (b : List UInt8) : Sf83.does s (.came b) = if 65536 < b.length then (s, Sf83.says (-1)) else if refH s ≠ 0 then (s, Sf83.says (refH s)) else if 262144 < s.plain.length then (s, Sf83.says (-5)) else
    (Sf83.S.go (s.kept.length + b.length + 2) { s with kept := s.kept ++ b }, Sf83.says (if (Sf83.S.go (s.kept.length + b.length + 2) { s with kept := s.kept ++ b }).phase = .broken then -3 else (Sf83.S.go (s.kept.length + b.length + 2) { s with kept := s.kept ++ b }).plain.length)) := by
  unfold Sf83.does
  generalize Sf83.S.go = GO
  dsimp only
  by_cases h1 : 65536 < b.length
  · rw [if_pos h1, if_pos (show Sf83.LONG < b.length from h1)]
  · rw [if_neg h1, if_neg (show ¬ Sf83.LONG < b.length from h1)]
    by_cases h2 : s.phase = .shut
    · have e : refH s = -4 := if_pos h2
      rw [if_pos h2, e, if_pos (by decide)]
    · by_cases h3 : s.phase = .broken
      · have e : refH s = -3 := (if_neg h2).trans (if_pos h3)
        rw [if_neg h2, if_pos h3, e, if_pos (by decide)]
      · have e : refH s = 0 := (if_neg h2).trans (if_neg h3)
        rw [if_neg h2, if_neg h3, e, if_neg (show ¬ (0 : Int) ≠ 0 from fun y => y rfl)]
        by_cases h4 : 262144 < s.plain.length
        · rw [if_pos h4, if_pos (show 4 * Sf83.LONG < s.plain.length from h4)]
        · rw [if_neg h4, if_neg (show ¬ 4 * Sf83.LONG < s.plain.length from h4)]
theorem refH_zero {s : Sf83.S} (h : refH s = 0) : s.phase = .waits ∨ s.phase = .sealed := by
  unfold refH at h
  cases hp : s.phase <;> rw [hp] at h
  · exact absurd h (by decide)
  · exact .inl rfl
  · exact .inr rfl
  · exact absurd h (by decide)
section
variable {P : Program} {w : World} {K : PySem.W.Frag} {mg : Str → Option Value} {base : Heap} {C : Cs}
abbrev st_End_came : Stmt := inClass (top 80) 16
theorem sc_End_came : FnScope ["self", "data", "refusal"] ["self", "data"] (defScope st_End_came) := ⟨rfl, rfl, rfl, by decide +kernel, rfl, by decide +kernel, by decide +kernel⟩
theorem bd_End_came : BindsOf "came" "End.came" st_End_came ["self", "data"] := fun _ _ _ _ _ _ us hl => match us, hl with | [_, _], _ => rfl
def spCame (C : Cs) : Sp := fun vs H Q _ => ∃ (x : EA) (s : Sf83.S) (L LG : List (Addr × HO)) (d : Addr) (data : List UInt8), vs = [.ref x.e, .ref d] ∧ Greets C x s LG ∧ Fit s ∧ Cells H (eCells C x s ++ (LG ++ (d, .lst (bv data)) :: L)) ∧ s.out.length ≤ 9000000 ∧ s.plain.length + (s.kept.length + data.length) ≤ 1000000 ∧
  Post C x.e (Sf83.does s (.came data)).1 ((d, .lst (bv data)) :: L) (Q (.int (Sf83.does s (.came data)).2.value))
theorem ok_came {f : Addr} {fd : FuncData} (F : Fun K "came" "End.came" st_End_came f fd) (G : Glb mg) (T : Txt K mg C) (F_refusal_to_hear : Mt P w K mg base C.E "refusal_to_hear" 1 ["self"] (spRef C refH)) (F_go_through : Mt1 P w K mg base C.E "go_through" 11 ["self"] (spGo C))
    (F_give_up : MtU P w K mg base C.E "give_up" 2 ["self"] (spGive C)) : FnOk P w K mg base CX0 12 f fd ["self", "data"] (spCame C) := by
  refine F.ok sc_End_came (fun vs H Q E h => ?_) (fun cdv A outer s H vs Q E hr h => ?_)
  · obtain ⟨x, s, L, LG, d, data, rfl, _⟩ := h
    rfl
  · obtain ⟨x, st, L, LG, d, data, rfl, GR, FT, c, lo, lb, r⟩ := h
    refine ⟨_, (pss_cons (ps_if (pt_cmpR op_gt (pe_callB call_len_seq rfl G.len boot_len (pa_cons (pv 1) pa_nil)) (pe_gint G.MOST_BYTES) (nomark _)) (pss_one (ps_ret (pe_gint G.UNFIT))) pss_nil) (pss_cons (ps_set (i := 2) sc_End_came.nd rfl (Or.inl rfl) (pe_mtX0 (pv 0) T.cE F_refusal_to_hear hr (by decide) pass0)) (pss_cons (ps_if (pt_cmpR op_ne (pv 2) pe_int (nomark _)) (pss_one (ps_ret (pv 2))) pss_nil) (pss_cons (ps_if (pt_cmpR op_gt (pe_callB call_len_seq rfl G.len boot_len (pa_cons (pe_fld (pv 0) rfl) pa_nil)) (pe_gint G.MOST_HELD) (nomark _)) (pss_one (ps_ret (pe_gint G.TOO_MUCH))) pss_nil) (pss_cons (ps_expr (pe_bm PySem.F.plainAttrs_list PySem.F.slot_list_extend PySem.F.type_list_extend mt_extend (pe_fld (pv 0) rfl) (pa_cons (pv 1) pa_nil))) (pss_cons (ps_try rfl rfl T.exc rfl (px_mt0 (pv 0) T.cE F_go_through hr (by decide)) (fun _ => (pss_one (ps_ret (pe_mtU0 (pv 0) T.cE F_give_up (hr.mark _) (by decide))))) (fun _ => PassesOwnAt.never)) (pss_one (ps_ret (pe_callB call_len_seq rfl G.len boot_len (pa_cons (pe_fld (pv 0) rfl) pa_nil)))))))))), ?_⟩
    rw [does_came] at r
    have hd : H d = some (.lst (bv data)) := c.2 (d, .lst (bv data)) (List.mem_append_right _ (List.mem_append_right _ (List.mem_cons_self ..)))
    refine ⟨_, rfl, d, _, rfl, .inl (SqL.of hd), _, _, rfl, rfl, _, rfl, ifD (fun z => ?_) fun z => ?_⟩
    · rw [if_pos (by rw [bv_len] at z; omega)] at r
      exact r H x LG rfl GR c
    · have hl : ¬ 65536 < data.length := fun y => z (by rw [bv_len]; omega)
      rw [if_neg hl] at r
      refine ⟨_, rfl, _, _, _, rfl, c.e, ef_no (by decide +kernel), x, st, _, rfl, c, ?_⟩
      try dsimp only [L2.start, Z1, Z2, Z3, Z4, Z5, Z6, List.replicate, Z7, Z8, Nat.reduceAdd, Nat.reduceSub, Nat.zero_add]
      refine ⟨_, rfl, rfl, _, rfl, ifU (fun z2 => ?_) fun z2 => ?_⟩
      · rw [if_pos z2] at r
        exact ⟨_, rfl, r H x LG rfl GR c⟩
      · rw [if_neg (fun y => y z2)] at r
        refine ⟨_, rfl, _, _, _, _, _, rfl, c.e, T.cE, T.nE_readable, ef_readable, _, _, rfl, .inl (SqL.of c.rd), _, _, rfl, rfl, _, rfl, ifD (fun z3 => ?_) fun z3 => ?_⟩
        · rw [if_pos (by rw [bv_len] at z3; omega)] at r
          exact r H x LG rfl GR c
        · rw [if_neg (fun y => z3 (by rw [bv_len]; omega))] at r
          refine ⟨_, rfl, _, _, _, _, _, rfl, c.e, T.cE, T.nE_arrived, ef_arrived, .inl ⟨rfl, _, SqL.of c.ar⟩, _, rfl, x.ar, d, _, _, rfl, rfl, c.ar, hd, by rw [bv_len, bv_len, sizeLine_eq]; omega, ?_⟩
          rw [← bv_app]
          have c1 : Cells _ (eCells C x { st with kept := st.kept ++ data } ++ (LG ++ (d, .lst (bv data)) :: L)) := c.putU 2 (.lst (bv (st.kept ++ data))) rfl
          generalize upd H x.ar (.lst (bv (st.kept ++ data))) = H1 at *
          have FT1 : Fit { st with kept := st.kept ++ data } := ⟨FT.keys, FT.zero, FT.lens, FT.chn1, FT.chn2⟩
          have lk1 : ({ st with kept := st.kept ++ data } : Sf83.S).kept.length = st.kept.length + data.length := List.length_append
          have hph : ({ st with kept := st.kept ++ data } : Sf83.S).phase = .waits ∨ ({ st with kept := st.kept ++ data } : Sf83.S).phase = .sealed := refH_zero z2
          have GR1 : Greets C x { st with kept := st.kept ++ data } LG := GR
          have lo1 : ({ st with kept := st.kept ++ data } : Sf83.S).out.length ≤ 9000000 := lo
          have lp1 : ({ st with kept := st.kept ++ data } : Sf83.S).plain.length = st.plain.length := rfl
          generalize ({ st with kept := st.kept ++ data } : Sf83.S) = s1 at *
          refine ⟨_, rfl, _, _, _, rfl, c1.e, ef_no (by decide +kernel), x, s1, (d, .lst (bv data)) :: L, LG, st.kept.length + data.length + 2, rfl, GR1, FT1, hph, c1, by omega, lo1, by omega, fun hbr H2 x2 s2 e2 c2 hbk => ⟨rfl, ?_⟩, fun hnb H2 x2 LG2 e2 gg c2 => ?_⟩
          · have c2e := c2.e
            rw [e2] at c2e
            refine ⟨_, rfl, _, _, _, rfl, c2e, ef_no (by decide +kernel), x2, s2, _, by rw [e2]; rfl, c2, fun H3 x3 e3 g3 c3 => ?_⟩
            have q := r H3 x3 [] (e3.trans e2)
            rw [hbk] at c3
            rw [if_pos hbr] at q
            exact q (.inl ⟨(by rw [hbr]; intro z; cases z), g3, rfl⟩) c3
          · have c2e := c2.e
            rw [e2] at c2e
            refine ⟨_, rfl, _, _, _, _, _, rfl, c2e, T.cE, T.nE_readable, ef_readable, _, _, rfl, .inl (SqL.of c2.rd), ?_⟩
            have q := r H2 x2 LG2 e2 gg c2
            rw [if_neg hnb] at q
            rw [bv_len]
            exact q
abbrev st_may_begin : Stmt := top 78
theorem sc_may_begin : FnScope ["first", "every", "rows", "row"] ["first", "every", "rows"] (defScope st_may_begin) := ⟨rfl, rfl, rfl, by decide +kernel, rfl, by decide +kernel, by decide +kernel⟩
theorem bd_may_begin : BindsOf "may_begin" "may_begin" st_may_begin ["first", "every", "rows"] := fun _ _ _ _ _ _ us hl => match us, hl with | [_, _, _], _ => rfl
def badOpen (i e : Int) (m t f : List UInt8) : Prop := Sf83.within i 0 1 = false ∨ Sf83.within e 0 1000000 = false ∨ m.length ≠ 32 ∨ t.length ≠ 32 ∨ f.length ≠ 32
instance (i e : Int) (m t f : List UInt8) : Decidable (badOpen i e m t f) := by unfold badOpen; infer_instance
def spMayB (K : PySem.W.Frag) : Sp := fun vs H Q _ => ∃ (i e : Int) (p a b c : Addr) (m t f : List UInt8), vs = [.int i, .int e, .ref p] ∧ H p = some (.lst [.ref a, .ref b, .ref c]) ∧ H a = some (.lst (bv m)) ∧ H b = some (.lst (bv t)) ∧ H c = some (.lst (bv f)) ∧ ∀ H', Same H H' → Q (.bl (decide (¬ badOpen i e m t f))) H'
theorem in_two (i : Int) : inV (.int i) [.int 0, .int 1] = Sf83.within i 0 1 := by
  show ((0 == i) || ((1 == i) || false)) = (decide (((0 : Nat) : Int) ≤ i) && decide (i ≤ ((1 : Nat) : Int)))
  rw [Bool.eq_iff_iff]
  simp only [Bool.or_eq_true, Bool.and_eq_true, beq_iff_eq, Bool.or_false, decide_eq_true_eq]
  omega
theorem ok_mayb {f : Addr} {fd : FuncData} (F : Fun K "may_begin" "may_begin" st_may_begin f fd) (G : Glb mg) : FnOk P w K mg base CX0 1 f fd ["first", "every", "rows"] (spMayB K) := by
  refine F.ok sc_may_begin (fun vs H Q E h => ?_) (fun cdv A outer s H vs Q E hr h => ?_)
  · obtain ⟨i, e, p, a, b, c, m, t, f, rfl, _⟩ := h
    rfl
  · obtain ⟨i, e, p, a, b, c, m, t, f, rfl, hp, ha, hb, hc, r⟩ := h
    refine ⟨_, (pss_cons (ps_if (PW.pt (pw_or (pt_cmpR op_notIn_seq (pv 0) (pe_tup (pa_cons pe_int (pa_cons pe_int pa_nil))) (by with_unfolding_all rfl)) (pw_or (pt_cmpR op_lt (pv 1) pe_int (nomark _)) (pw_or1 (pt_cmpR op_gt (pv 1) (pe_gint G.MOST_EVERY) (nomark _)))))) (pss_one (ps_ret pe_bl)) pss_nil) (pss_one (ps_ret (pe_callB (cr_all rfl) rfl G.all boot_all (pa_cons (pe_lc (own := [("row", 3)]) rfl sc_may_begin.nd (pi_list (pv 2)) (blkOk_by rfl) (fun _ _ _ _ _ => pg_name (i := 3) sc_may_begin.nd rfl (Or.inl rfl)) (fun _ _ _ _ _ => pts_nil) (fun _ _ _ _ _ => (pe_cmpR op_eq (pe_callB (r := rLen K) call_len_K rfl G.len boot_len (pa_cons (pv 3) pa_nil)) (pe_gint G.ksize) (nomark _)))) pa_nil))))), ?_⟩
    have bad : badOpen i e m t f → ∀ H', Same H H' → Q (.bl false) H' := fun hb H' s' => by
      have q := r H' s'
      rw [decide_eq_false (fun y => y hb)] at q
      exact q
    refine ⟨_, rfl, two_le, fun u hu => ⟨u, _, rfl, .inr (SqT.of upd_same), rfl, rfl, _, rfl, ?_⟩⟩
    have s1 := (Same.refl H).upd (o := .tup [V.int 0, V.int 1]) hu
    show if (!inV (.int i) [.int 0, .int 1]) = true then _ else _
    rw [in_two]
    cases hw : Sf83.within i 0 1 with
    | false => exact iteT (iteT (bad (.inl hw) _ s1))
    | true =>
      refine iteF ⟨_, rfl, _, _, rfl, rfl, _, rfl, ifD (fun z => iteT ?_) fun z => ?_⟩
      · refine bad (.inr (.inl ?_)) _ s1
        unfold Sf83.within
        rw [decide_eq_false (by omega)]
        rfl
      · refine ⟨_, rfl, _, _, rfl, rfl, _, rfl, ifD (fun z2 => ?_) fun z2 => ?_⟩
        · refine bad (.inr (.inl ?_)) _ s1
          unfold Sf83.within
          rw [decide_eq_false (show ¬ e ≤ ((1000000 : Nat) : Int) by omega), Bool.and_false]
        · have he : Sf83.within e 0 1000000 = true := by
            unfold Sf83.within
            rw [decide_eq_true (by omega), decide_eq_true (by omega)]
            rfl
          refine ⟨_, rfl, p, rfl, ⟨_, SqL.of (s1 _ _ hp)⟩, fun D hD => ?_⟩
          have row : ∀ (j : Nat) (q : V), [V.ref a, V.ref b, V.ref c][j]? = some q → ∃ (y : Addr) (l : List UInt8), q = .ref y ∧ H y = some (.lst (bv l)) ∧ [V.bl (decide (m.length = 32)), V.bl (decide (t.length = 32)), V.bl (decide (f.length = 32))][j]? = some (V.bl (decide (l.length = 32))) := by
            intro j q hq
            match j, hq with
            | 0, hq => exact ⟨a, m, (Option.some.inj hq).symm, ha, rfl⟩
            | 1, hq => exact ⟨b, t, (Option.some.inj hq).symm, hb, rfl⟩
            | 2, hq => exact ⟨c, f, (Option.some.inj hq).symm, hc, rfl⟩
          refine lc_gen (n := 3) [V.bl (decide (m.length = 32)), V.bl (decide (t.length = 32)), V.bl (decide (f.length = 32))] rfl three_le hD ?_ ?_ ?_ ?_ (gName_mono 3) tYes_mono
          · intro j H2 hj s2
            exact ⟨_, _, SqL.of (s2 _ _ (s1 _ _ hp)), List.getElem?_eq_getElem (by show j < 3; exact hj)⟩
          · intro H2 s2
            exact ⟨_, SqL.of (s2 _ _ (s1 _ _ hp)), Nat.le_refl _⟩
          · intro j H2 q H3 y hj s2 yl hy
            obtain ⟨rfl, hq⟩ := yl
            obtain ⟨w0, l, rfl, hl, hv⟩ := row j q (hq _ (SqL.of (s2 _ _ (s1 _ _ hp))))
            have ey := Option.some.inj (hy.symm.trans hv)
            subst ey
            refine ⟨Same.refl _, fun KK hK => ⟨rfl, iteT (B := False) ?_⟩⟩
            refine ⟨_, rfl, w0, _, rfl, .inl (SqL.of (s2 _ _ (s1 _ _ hl))), rfl, ?_⟩
            have ed : decide (V.int ((bv l).length : Nat) = V.int 32) = decide (l.length = 32) := decide_eq_decide.mpr (by
              rw [bv_len]
              constructor
              · intro h
                have := V.int.inj h
                omega
              · intro h
                rw [h]
                rfl)
            show KK (.bl (decide (V.int ((bv l).length : Nat) = V.int 32))) _
            rw [ed]
            exact hK _ (Same.refl _)
          · intro H2 s2 hl
            refine ⟨D, [decide (m.length = 32), decide (t.length = 32), decide (f.length = 32)], rfl, SqL.of hl, ?_⟩
            have q := r H2 (s1.trans s2)
            have ed : decide (¬ badOpen i e m t f) = ([decide (m.length = 32), decide (t.length = 32), decide (f.length = 32)]).all id := by
              rw [Bool.eq_iff_iff]
              simp only [List.all_cons, List.all_nil, id_eq, Bool.and_true, Bool.and_eq_true, decide_eq_true_eq]
              unfold badOpen
              rw [hw, he]
              constructor
              · intro h
                refine ⟨?_, ?_, ?_⟩
                · exact Decidable.byContradiction fun y => h (.inr (.inr (.inl y)))
                · exact Decidable.byContradiction fun y => h (.inr (.inr (.inr (.inl y))))
                · exact Decidable.byContradiction fun y => h (.inr (.inr (.inr (.inr y))))
              · rintro ⟨h1, h2, h3⟩ (y | y | y | y | y)
                · cases y
                · cases y
                · exact y h1
                · exact y h2
                · exact y h3
            rw [← ed]
            exact q
end
end S
namespace L2
open PySem PySem.Spec PyProof.Rows S
theorem Cells.insert {H : Hp} {A L : List (Addr × HO)} {p : Addr} {o : HO} (c : Cells H (A ++ L)) (n : p ∉ (A ++ L).map Prod.fst) (e : H p = some o) : Cells H (A ++ (p, o) :: L) := Cells.perm (c.cons n e) List.perm_middle.symm
theorem notin_mid {A L : List (Addr × HO)} {p q : Addr} {o : HO} (n : p ∉ (A ++ L).map Prod.fst) (h : p ≠ q) : p ∉ (A ++ (q, o) :: L).map Prod.fst := fun z => by
  have z2 := ((List.perm_middle (a := (q, o)) (l₁ := A) (l₂ := L)).map Prod.fst).mem_iff.mp z
  rcases List.mem_cons.mp z2 with y | y
  · exact h y
  · exact n y
theorem Cells.keep {H H' : Hp} {L : List (Addr × HO)} {g : Addr} (c : Cells H L) (k : Keep H H' [g]) (n : g ∉ L.map Prod.fst) : Cells H' L := ⟨c.1, fun y hy => k _ _ (c.2 y hy) fun z => n (List.mem_map.mpr ⟨y, hy, List.mem_singleton.mp z⟩)⟩
end L2
namespace S
open PySem PySem.Spec PyProof.Rows L2
def opn (i e : Int) (m t f : List UInt8) : Sf83.S := { Sf83.shut with phase := .waits, first := i == 1, every := e.toNat, mine := m, theirs := t, fleeting := f }
theorem does_open_bad {s : Sf83.S} {i e : Int} {m t f : List UInt8} (h : badOpen i e m t f) : Sf83.does s (.open_ i e m t f) = (s, Sf83.says (-1)) := by
  unfold Sf83.does
  generalize Sf83.dhs = DH
  generalize Sf83.proof = PR
  generalize Sf83.publicOf = PU
  dsimp only
  exact if_pos h
theorem does_open_two {s : Sf83.S} {i e : Int} {m t f : List UInt8} (h : ¬ badOpen i e m t f) (hi : i = 0) : Sf83.does s (.open_ i e m t f) = ({ opn i e m t f with chain := Sf83.chainOf t (Sf83.publicOf m) }, Sf83.says 0) := by
  unfold Sf83.does opn
  generalize Sf83.dhs = DH
  generalize Sf83.proof = PR
  generalize Sf83.publicOf = PU
  generalize Sf83.chainOf = CH
  dsimp only
  unfold badOpen at h
  rw [if_neg h, if_pos hi]
theorem does_open_none {s : Sf83.S} {i e : Int} {m t f : List UInt8} (h : ¬ badOpen i e m t f) (hi : ¬ i = 0) (hd : Sf83.dhs ([Sf83.publicOf m, t, Sf83.publicOf f].foldl Sf83.mixed Sf83.BEGIN) [(f, t), (m, t)] = none) :
    Sf83.does s (.open_ i e m t f) = ((opn i e m t f).break_, Sf83.says (-3)) := by
  simp only [List.foldl_cons, List.foldl_nil] at hd
  unfold Sf83.does opn Sf83.chainOf
  generalize Sf83.dhs = DH at *
  generalize Sf83.proof = PR
  generalize Sf83.publicOf = PU at *
  generalize Sf83.mixed = MX at *
  generalize Sf83.BEGIN = BE at *
  dsimp only
  unfold badOpen at h
  rw [if_neg h, if_neg hi, hd]
theorem does_open_some {s : Sf83.S} {i e : Int} {m t f c : List UInt8} (h : ¬ badOpen i e m t f) (hi : ¬ i = 0) (hd : Sf83.dhs ([Sf83.publicOf m, t, Sf83.publicOf f].foldl Sf83.mixed Sf83.BEGIN) [(f, t), (m, t)] = some c) :
    Sf83.does s (.open_ i e m t f) = ({ opn i e m t f with chain := c, out := Sf83.publicOf f ++ Sf83.proof c }, Sf83.says 0) := by
  simp only [List.foldl_cons, List.foldl_nil] at hd
  unfold Sf83.does opn Sf83.chainOf
  generalize Sf83.dhs = DH at *
  generalize Sf83.proof = PR
  generalize Sf83.publicOf = PU at *
  generalize Sf83.mixed = MX at *
  generalize Sf83.BEGIN = BE at *
  dsimp only
  unfold badOpen at h
  rw [if_neg h, if_neg hi, hd]
section
variable {P : Program} {w : World} {K : PySem.W.Frag} {mg : Str → Option Value} {base : Heap} {C : Cs}
abbrev st_End_begin : Stmt := inClass (top 80) 2
theorem sc_End_begin : FnScope ["self", "first", "every", "own", "other", "fleeting"] ["self", "first", "every", "own", "other", "fleeting"] (defScope st_End_begin) := ⟨rfl, rfl, rfl, by decide +kernel, rfl, by decide +kernel, by decide +kernel⟩
theorem bd_End_begin : BindsOf "begin" "End.begin" st_End_begin ["self", "first", "every", "own", "other", "fleeting"] := fun _ _ _ _ _ _ us hl => match us, hl with | [_, _, _, _, _, _], _ => rfl
def spBegin (C : Cs) : Sp := fun vs H Q _ => ∃ (x : EA) (s : Sf83.S) (L LG : List (Addr × HO)) (i ev : Int) (a b c : Addr) (m t f : List UInt8), vs = [.ref x.e, .int i, .int ev, .ref a, .ref b, .ref c] ∧ Greets C x s LG ∧ Cells H (eCells C x s ++ (LG ++ ((a, .lst (bv m)) :: (b, .lst (bv t)) :: (c, .lst (bv f)) :: L))) ∧
  Post C x.e (Sf83.does s (.open_ i ev m t f)).1 L (Q (.int (Sf83.does s (.open_ i ev m t f)).2.value))
theorem ok_begin {f : Addr} {fd : FuncData} (F : Fun K "begin" "End.begin" st_End_begin f fd) (G : Glb mg) (T : Txt K mg C) (F_may_begin : Fn P w K mg base "may_begin" 1 ["first", "every", "rows"] (spMayB K)) (F_reset : Mt P w K mg base C.E "reset" 3 ["self"] (spReset C))
    (M_Greeting : MkX P w K mg base "Greeting" C.G 5 ["self", "own", "other", "fleeting"] (spGInit K C)) (F_lead : Mt1 P w K mg base C.G "lead" 8 ["self"] (spLead K C)) (F_give_up : MtU P w K mg base C.E "give_up" 2 ["self"] (spGive C)) (F_message : Mt P w K mg base C.G "message" 8 ["self"] (spMsg K C)) :
    FnOk P w K mg base CX0 9 f fd ["self", "first", "every", "own", "other", "fleeting"] (spBegin C) := by
  refine F.ok sc_End_begin (fun vs H Q E h => ?_) (fun cdv A outer s H vs Q E hr h => ?_)
  · obtain ⟨x, s, L, LG, i, ev, a, b, c, m, t, f, rfl, _⟩ := h
    rfl
  · obtain ⟨x, st, L, LG, i, ev, a, b, c, m, t, f, rfl, GR, c0, r⟩ := h
    refine ⟨_, (pss_cons (ps_if (pt_not (pt_truth (pe_fn F_may_begin hr (pa_cons (pv 1) (pa_cons (pv 2) (pa_cons (pe_lst (pa_cons (pv 3) (pa_cons (pv 4) (pa_cons (pv 5) pa_nil)))) pa_nil)))) (fun _ => rfl))) (pss_one (ps_ret (pe_gint G.UNFIT))) pss_nil) (pss_cons (ps_expr (pe_mtX0 (pv 0) T.cE F_reset hr (by decide) pass0)) (pss_cons (ps_fld (pv 0) (pe_gint G.WAITING) rfl) (pss_cons (ps_fld (pv 0) (pe_cmpR op_eq (pv 1) pe_int (nomark _)) rfl) (pss_cons (ps_fld (pv 0) (pv 2) rfl) (pss_cons (ps_fld (pv 0) (pe_mk M_Greeting hr (pa_cons (pv 3) (pa_cons (pv 4) (pa_cons (pv 5) pa_nil)))) rfl) (pss_cons (ps_if (pt_not (pt_truth (pe_fld (pv 0) rfl) (fun _ => rfl))) (pss_one (ps_ret pe_int)) pss_nil) (pss_cons (ps_try rfl rfl T.exc rfl (px_mt0 (pe_fld (pv 0) rfl) T.cG F_lead hr (by decide)) (fun _ => (pss_one (ps_ret (pe_mtU0 (pv 0) T.cE F_give_up (hr.mark _) (by decide))))) (fun _ => PassesOwnAt.never)) (pss_cons (ps_fld (pv 0) (pe_mtX0 (pe_fld (pv 0) rfl) T.cG F_message hr (by decide) pass0) rfl) (pss_one (ps_ret pe_int))))))))))), ?_⟩
    have cB := Cells.back (Cells.back c0)
    have ha : H a = some (.lst (bv m)) := cB.at_ 0 rfl
    have hb : H b = some (.lst (bv t)) := cB.at_ 1 rfl
    have hc : H c = some (.lst (bv f)) := cB.at_ 2 rfl
    refine ⟨_, rfl, _, rfl, _, rfl, _, rfl, _, rfl, three_le, fun p hp => ?_⟩
    have u1 := (Same.refl H).upd (o := .lst [V.ref a, V.ref b, V.ref c]) hp
    refine ⟨i, ev, p, a, b, c, m, t, f, rfl, upd_same, u1 _ _ ha, u1 _ _ hb, u1 _ _ hc, fun H1 s1 => ⟨_, rfl, ?_⟩⟩
    have c1 := c0.same (u1.trans s1)
    by_cases hbad : badOpen i ev m t f
    · rw [decide_eq_false (fun y => y hbad)]
      rw [does_open_bad hbad] at r
      exact iteT (r H1 x LG rfl GR (Cells.sub c1 (List.Sublist.append (List.Sublist.refl _) (List.Sublist.append (List.Sublist.refl _) (.cons _ (.cons _ (.cons _ (List.Sublist.refl _))))))))
    · rw [decide_eq_true hbad]
      refine iteF ?_
      have lm : m.length = 32 := Decidable.byContradiction fun y => hbad (.inr (.inr (.inl y)))
      have lt : t.length = 32 := Decidable.byContradiction fun y => hbad (.inr (.inr (.inr (.inl y))))
      have lf : f.length = 32 := Decidable.byContradiction fun y => hbad (.inr (.inr (.inr (.inr y))))
      have hi01 : i = 0 ∨ i = 1 := by
        have z : Sf83.within i 0 1 = true := by
          cases h : Sf83.within i 0 1 with
          | true => rfl
          | false => exact absurd (.inl h) hbad
        unfold Sf83.within at z
        rw [Bool.and_eq_true, decide_eq_true_eq, decide_eq_true_eq] at z
        omega
      have hev : ((ev.toNat : Nat) : Int) = ev := by
        have z : Sf83.within ev 0 1000000 = true := by
          cases h : Sf83.within ev 0 1000000 with
          | true => rfl
          | false => exact absurd (.inr (.inl h)) hbad
        unfold Sf83.within at z
        rw [Bool.and_eq_true, decide_eq_true_eq, decide_eq_true_eq] at z
        omega
      have c1' : Cells H1 ((x.e, eObj C x st) :: (a, .lst (bv m)) :: (b, .lst (bv t)) :: (c, .lst (bv f)) :: L) :=
        c1.sub (.cons₂ _ (.cons _ (.cons _ (.cons _ (.cons _ (.cons _ (.cons _ (.cons _ (List.sublist_append_right LG _)))))))))
      refine ⟨_, rfl, _, _, _, rfl, c1.e, ef_no (by decide +kernel), x.e, x.de, _, _, rfl, c1', (by show 11 < 900; decide), fills_ef, fun H2 x2 e2 g2 c2 => ?_⟩
      have c2e := c2.e
      obtain ⟨e, de, o, ar, rd, ks, sw, dsw, kr, rw, drw, gr⟩ := x2
      dsimp only at e2 g2
      subst e2 g2
      refine ⟨_, rfl, _, _, _, _, rfl, c2.e, T.cE, T.nE_phase, (by show 11 < 1000; decide), ?_⟩
      rw [ef_put_phase]
      refine ⟨_, rfl, rfl, _, rfl, _, _, _, _, rfl, upd_same, T.cE, T.nE_leads, (by show 11 < 1000; decide), ?_⟩
      rw [ef_put_leads, upd_upd]
      refine ⟨_, rfl, _, rfl, _, _, _, _, rfl, upd_same, T.cE, T.nE_every, (by show 11 < 1000; decide), ?_⟩
      rw [ef_put_every, upd_upd]
      have ef1 : decide (V.int i = V.int 1) = (i == 1) := dec_int
      rw [ef1]
      have c3 : Cells _ (eCells C ⟨x.e, de, o, ar, rd, ks, sw, dsw, kr, rw, drw, .non⟩ (opn i ev m t f) ++ ((a, .lst (bv m)) :: (b, .lst (bv t)) :: (c, .lst (bv f)) :: L)) := c2.putU 0 (eObj C ⟨x.e, de, o, ar, rd, ks, sw, dsw, kr, rw, drw, .non⟩ (opn i ev m t f)) rfl
      have eo : eObj C ⟨x.e, de, o, ar, rd, ks, sw, dsw, kr, rw, drw, .non⟩ (opn i ev m t f) = .ins C.E de (ef (.int 1) (.bl (i == 1)) (.int ev) .non (.ref o) (.ref ar) (.ref rd) (.bl false) (.bl false) (.ref sw) (.ref rw)) := by
        show HO.ins C.E de (ef (.int 1) (.bl (i == 1)) (.int ((ev.toNat : Nat) : Int)) .non (.ref o) (.ref ar) (.ref rd) (.bl false) (.bl false) (.ref sw) (.ref rw)) = _
        rw [hev]
      rw [eo] at c3
      change Cells (upd H2 x.e (.ins C.E de (ef (.int 1) (.bl (i == 1)) (.int ev) .non (.ref o) (.ref ar) (.ref rd) (.bl false) (.bl false) (.ref sw) (.ref rw)))) _ at c3
      dsimp only [Sf83.shut]
      generalize hH3 : upd H2 x.e (.ins C.E de (ef (.int 1) (.bl (i == 1)) (.int ev) .non (.ref o) (.ref ar) (.ref rd) (.bl false) (.bl false) (.ref sw) (.ref rw))) = H3 at *
      have a3 : H3 a = some (.lst (bv m)) := c3.at_ 8 rfl
      have b3 : H3 b = some (.lst (bv t)) := c3.at_ 9 rfl
      have d3 : H3 c = some (.lst (bv f)) := c3.at_ 10 rfl
      refine ⟨_, rfl, _, rfl, _, rfl, fun g dg hg hdg hne => ?_⟩
      have hg : H3 g = none := hg
      have hdg : H3 dg = none := hdg
      have s3 : Same H3 (upd (upd H3 dg (.own g)) g (.ins C.G dg [])) := made_same hg hdg
      refine ⟨g, dg, a, b, c, m, f, rfl, upd_same, ⟨SqL.of (s3 _ _ a3), lm⟩, ⟨SqL.of (s3 _ _ d3), lf⟩, fun H4 op fp ch k4 o4 n1 q1 n2 q2 n3 q3 ne1 ne2 ne3 => ⟨rfl, ?_⟩⟩
      have gg : upd (upd H3 dg (.own g)) g (.ins C.G dg []) g = some (.ins C.G dg []) := upd_same
      have hop := s3.free n1
      have hfp := s3.free n2
      have hch := s3.free n3
      have og : op ≠ g := fun z => by rw [z, gg] at n1; cases n1
      have fg : fp ≠ g := fun z => by rw [z, gg] at n2; cases n2
      have cg : ch ≠ g := fun z => by rw [z, gg] at n3; cases n3
      have dsome := @does_open_some st i ev m t f
      have dnone := @does_open_none st i ev m t f hbad
      have dtwo := @does_open_two st i ev m t f hbad
      have lpm : (Sf83.publicOf m).length = 32 := M.point_len _ _
      have lpf : (Sf83.publicOf f).length = 32 := M.point_len _ _
      have GRT : ∀ (x' : EA) (s' : Sf83.S) (g dg a b c op fp ch : Addr) (cc : List UInt8), s'.phase = .waits → s'.mine = m → s'.theirs = t → s'.fleeting = f → x'.gr = .ref g → (if s'.first = true then s'.chain else Sf83.BEGIN) = cc → Greets C x' s' (gCells C g dg a b c op fp ch m t f (Sf83.publicOf m) (Sf83.publicOf f) cc) := fun x' s' g dg a b c op fp ch cc h1 h2 h3 h4 h5 h6 => .inr ⟨h1, g, dg, a, b, c, op, fp, ch, h5, by rw [h2, h3, h4, h6]⟩
      generalize Sf83.publicOf m = pm at *
      generalize Sf83.publicOf f = pf at *
      have n0 := c3.notin hg
      have c4 : Cells H4 (eCells C ⟨x.e, de, o, ar, rd, ks, sw, dsw, kr, rw, drw, .non⟩ (opn i ev m t f) ++ ((a, .lst (bv m)) :: (b, .lst (bv t)) :: (c, .lst (bv f)) :: L)) := (c3.same s3).keep k4 n0
      have c5 := Cells.insert c4 n0 o4
      have cop := notin_mid (o := .ins C.G dg (gf (.ref a) (.ref b) (.ref c) (.ref op) (.ref fp) (.ref ch))) (c3.notin hop) og
      have cfp := notin_mid (o := .ins C.G dg (gf (.ref a) (.ref b) (.ref c) (.ref op) (.ref fp) (.ref ch))) (c3.notin hfp) fg
      have cch := notin_mid (o := .ins C.G dg (gf (.ref a) (.ref b) (.ref c) (.ref op) (.ref fp) (.ref ch))) (c3.notin hch) cg
      have c6 := Cells.insert (A := eCells C ⟨x.e, de, o, ar, rd, ks, sw, dsw, kr, rw, drw, .non⟩ (opn i ev m t f) ++ [(g, .ins C.G dg (gf (.ref a) (.ref b) (.ref c) (.ref op) (.ref fp) (.ref ch))), (a, .lst (bv m)), (b, .lst (bv t)), (c, .lst (bv f))]) (L := L) c5 cop q1
      have cfp' := notin_mid (A := eCells C ⟨x.e, de, o, ar, rd, ks, sw, dsw, kr, rw, drw, .non⟩ (opn i ev m t f) ++ [(g, .ins C.G dg (gf (.ref a) (.ref b) (.ref c) (.ref op) (.ref fp) (.ref ch))), (a, .lst (bv m)), (b, .lst (bv t)), (c, .lst (bv f))]) (L := L) (o := .lst (bv pm)) cfp ne1.symm
      have cch' := notin_mid (A := eCells C ⟨x.e, de, o, ar, rd, ks, sw, dsw, kr, rw, drw, .non⟩ (opn i ev m t f) ++ [(g, .ins C.G dg (gf (.ref a) (.ref b) (.ref c) (.ref op) (.ref fp) (.ref ch))), (a, .lst (bv m)), (b, .lst (bv t)), (c, .lst (bv f))]) (L := L) (o := .lst (bv pm)) cch ne2.symm
      have c7 := Cells.insert (A := eCells C ⟨x.e, de, o, ar, rd, ks, sw, dsw, kr, rw, drw, .non⟩ (opn i ev m t f) ++ [(g, .ins C.G dg (gf (.ref a) (.ref b) (.ref c) (.ref op) (.ref fp) (.ref ch))), (a, .lst (bv m)), (b, .lst (bv t)), (c, .lst (bv f)), (op, .lst (bv pm))]) (L := L) c6 cfp' q2
      have cch2 := notin_mid (A := eCells C ⟨x.e, de, o, ar, rd, ks, sw, dsw, kr, rw, drw, .non⟩ (opn i ev m t f) ++ [(g, .ins C.G dg (gf (.ref a) (.ref b) (.ref c) (.ref op) (.ref fp) (.ref ch))), (a, .lst (bv m)), (b, .lst (bv t)), (c, .lst (bv f)), (op, .lst (bv pm))]) (L := L) (o := .lst (bv pf)) cch' ne3.symm
      have c8 := Cells.insert (A := eCells C ⟨x.e, de, o, ar, rd, ks, sw, dsw, kr, rw, drw, .non⟩ (opn i ev m t f) ++ [(g, .ins C.G dg (gf (.ref a) (.ref b) (.ref c) (.ref op) (.ref fp) (.ref ch))), (a, .lst (bv m)), (b, .lst (bv t)), (c, .lst (bv f)), (op, .lst (bv pm)), (fp, .lst (bv pf))]) (L := L) c7 cch2 q3
      have c8' : Cells H4 (eCells C ⟨x.e, de, o, ar, rd, ks, sw, dsw, kr, rw, drw, .non⟩ (opn i ev m t f) ++ (gCells C g dg a b c op fp ch m t f pm pf Sf83.BEGIN ++ L)) := c8
      refine ⟨_, rfl, _, _, _, _, rfl, c8'.e, T.cE, T.nE_greeting, (by show 11 < 1000; decide), ?_⟩
      rw [ef_put_greeting]
      have c9 : Cells _ (eCells C ⟨x.e, de, o, ar, rd, ks, sw, dsw, kr, rw, drw, .ref g⟩ (opn i ev m t f) ++ (gCells C g dg a b c op fp ch m t f pm pf Sf83.BEGIN ++ L)) := c8'.putU 0 (eObj C ⟨x.e, de, o, ar, rd, ks, sw, dsw, kr, rw, drw, .ref g⟩ (opn i ev m t f)) rfl
      refine ⟨_, rfl, _, _, _, _, _, rfl, c9.e, T.cE, T.nE_leads, ef_leads, _, rfl, ?_⟩
      rcases hi01 with hi | hi
      · subst hi
        rw [dtwo rfl] at r
        refine iteT ?_
        generalize Sf83.chainOf t pm = ch0 at *
        have hcc : (if ({ opn 0 ev m t f with chain := ch0 } : Sf83.S).first = true then ({ opn 0 ev m t f with chain := ch0 } : Sf83.S).chain else Sf83.BEGIN) = Sf83.BEGIN := if_neg (by show ¬ ((0 : Int) == 1) = true; decide)
        exact r _ ⟨x.e, de, o, ar, rd, ks, sw, dsw, kr, rw, drw, .ref g⟩ _ rfl (GRT _ _ g dg a b c op fp ch Sf83.BEGIN rfl rfl rfl rfl rfl hcc) c9
      · subst hi
        refine iteF ?_
        have B : GrAt K C _ g dg a b c op fp ch m t f pm pf Sf83.BEGIN := ⟨c9.at_ 8 rfl, ⟨SqL.of (c9.at_ 9 rfl), lm⟩, ⟨SqL.of (c9.at_ 10 rfl), lt⟩, ⟨SqL.of (c9.at_ 11 rfl), lf⟩, ⟨SqL.of (c9.at_ 12 rfl), lpm⟩, c9.at_ 13 rfl, lpf, ⟨SqL.of (c9.at_ 14 rfl), rfl⟩⟩
        refine ⟨_, rfl, _, _, _, _, _, rfl, c9.e, T.cE, T.nE_greeting, ef_greeting, _, _, _, rfl, B.obj, gf_no (by decide +kernel), g, dg, a, b, c, op, fp, ch, m, t, f, pm, pf, Sf83.BEGIN, rfl, B, fun hd H5 k5 => ⟨rfl, ?_⟩, fun c' hd H5 ch' k5 o5 n5 q5 l5 => ?_⟩
        · rw [dnone (by decide) hd] at r
          have c10 := keep8 (g := g) c9 k5
          have c11 : Cells H5 (eCells C ⟨x.e, de, o, ar, rd, ks, sw, dsw, kr, rw, drw, .ref g⟩ (opn 1 ev m t f) ++ L) := c10.sub (List.Sublist.append (List.Sublist.refl _) (.cons _ (.cons _ (.cons _ (.cons _ (.cons _ (.cons _ (List.Sublist.refl _))))))))
          refine ⟨_, rfl, _, _, _, rfl, c11.e, ef_no (by decide +kernel), ⟨x.e, de, o, ar, rd, ks, sw, dsw, kr, rw, drw, .ref g⟩, opn 1 ev m t f, L, rfl, c11, fun H6 x6 e6 g6 c12 => ?_⟩
          exact r H6 x6 [] e6 (.inl ⟨(by intro z; cases z), g6, rfl⟩) c12
        · have ds := dsome (c := c') hbad (by decide) hd
          rw [ds] at r
          have c10 : Cells H5 (eCells C ⟨x.e, de, o, ar, rd, ks, sw, dsw, kr, rw, drw, .ref g⟩ (opn 1 ev m t f) ++ (gCells C g dg a b c op fp ch' m t f pm pf c' ++ L)) := by
            refine (c9.put 8 rfl k5 o5).repl 14 (.inl ?_) q5
            rw [map_fst_set (o := .ins C.G dg (gf (.ref a) (.ref b) (.ref c) (.ref op) (.ref fp) (.ref ch))) rfl]
            exact c9.notin n5
          have B5 : GrAt K C H5 g dg a b c op fp ch' m t f pm pf c' := ⟨c10.at_ 8 rfl, ⟨SqL.of (c10.at_ 9 rfl), lm⟩, ⟨SqL.of (c10.at_ 10 rfl), lt⟩, ⟨SqL.of (c10.at_ 11 rfl), lf⟩, ⟨SqL.of (c10.at_ 12 rfl), lpm⟩, c10.at_ 13 rfl, lpf, ⟨SqL.of (c10.at_ 14 rfl), l5⟩⟩
          refine ⟨_, rfl, _, _, _, _, _, rfl, c10.e, T.cE, T.nE_greeting, ef_greeting, _, _, _, rfl, B5.obj, gf_no (by decide +kernel), g, dg, a, b, c, op, fp, ch', m, t, f, pm, pf, c', rfl, B5, fun H6 p6 s6 n6 q6 => ?_⟩
          generalize Sf83.proof c' = pr at *
          have c11 := c10.same s6
          refine ⟨_, rfl, _, _, _, _, rfl, c11.e, T.cE, T.nE_outgoing, (by show 11 < 1000; decide), ?_⟩
          rw [ef_put_outgoing]
          have c12 : Cells _ (eCells C ⟨x.e, de, p6, ar, rd, ks, sw, dsw, kr, rw, drw, .ref g⟩ { opn 1 ev m t f with chain := c', out := pf ++ pr } ++ (gCells C g dg a b c op fp ch' m t f pm pf c' ++ L)) :=
            (c11.repl 1 (.inl (c10.notin n6)) q6).putU 0 (eObj C ⟨x.e, de, p6, ar, rd, ks, sw, dsw, kr, rw, drw, .ref g⟩ { opn 1 ev m t f with chain := c', out := pf ++ pr }) rfl
          exact r _ ⟨x.e, de, p6, ar, rd, ks, sw, dsw, kr, rw, drw, .ref g⟩ _ rfl (GRT _ _ g dg a b c op fp ch' c' rfl rfl rfl rfl rfl (if_pos rfl)) c12
end
end S
namespace L2
open PySem PySem.Spec PyProof.Rows S
theorem Cells.putM {H H' : Hp} {A L : List (Addr × HO)} {r : Addr} {o o' : HO} (c : Cells H (A ++ (r, o) :: L)) (k : Keep H H' [r]) (e : H' r = some o') : Cells H' (A ++ (r, o') :: L) := by
  have h : (A ++ (r, o) :: L)[A.length]? = some (r, o) := by
    rw [List.getElem?_append_right (Nat.le_refl _), Nat.sub_self]
    rfl
  have q := c.put A.length h k e
  rw [List.set_append_right _ _ (Nat.le_refl _), Nat.sub_self] at q
  exact q
theorem fst_mid {A L : List (Addr × HO)} {r : Addr} {o o' : HO} : (A ++ (r, o') :: L).map Prod.fst = (A ++ (r, o) :: L).map Prod.fst := by
  rw [List.map_append, List.map_append]
  rfl
end L2
namespace S
open PySem PySem.Spec PyProof.Rows L2
def robj (C : Cs) (dr l : Addr) (n : Nat) : HO := .ins C.R dr (rf (.ref l) (.int (n : Nat)))
theorem drop_get {ns t : List Int} {n : Nat} {z : Int} (h : ns.drop n = z :: t) : ns[n]? = some z ∧ n < ns.length ∧ ns.drop (n + 1) = t := by
  have hl : n < ns.length := by
    have := congrArg List.length h
    rw [List.length_drop] at this
    have h2 : (z :: t).length = t.length + 1 := rfl
    omega
  rw [List.drop_eq_getElem_cons hl] at h
  exact ⟨by rw [List.getElem?_eq_getElem hl, (List.cons.inj h).1], hl, (List.cons.inj h).2⟩
theorem av_len (l : List Int) : (av l).length = l.length := List.length_map ..
theorem av_drop (l : List Int) (n : Nat) : (av l).drop n = av (l.drop n) := by unfold av; rw [← List.map_drop]
theorem av_take (l : List Int) (n : Nat) : (av l).take n = av (l.take n) := by unfold av; rw [← List.map_take]
theorem av_app (a b : List Int) : av (a ++ b) = av a ++ av b := List.map_append ..
theorem av_at {l : List Int} {i : Nat} {z : Int} (h : l[i]? = some z) : (av l)[i]? = some (V.int z) := by
  unfold av
  rw [List.getElem?_map, h]
  rfl
section
variable {P : Program} {w : World} {K : PySem.W.Frag} {mg : Str → Option Value} {base : Heap} {C : Cs}
abbrev st_Reader_init : Stmt := inClass (top 83) 0
theorem sc_Reader_init : FnScope ["self", "calls"] ["self", "calls"] (defScope st_Reader_init) := ⟨rfl, rfl, rfl, by decide +kernel, rfl, by decide +kernel, by decide +kernel⟩
theorem bd_Reader_init : BindsOf "__init__" "Reader.__init__" st_Reader_init ["self", "calls"] := fun _ _ _ _ _ _ us hl => match us, hl with | [_, _], _ => rfl
def spRInit (C : Cs) : Sp := fun vs H Q _ => ∃ (x dx l : Addr), vs = [.ref x, .ref l] ∧ H x = some (.ins C.R dx []) ∧ Q .non (upd H x (robj C dx l 0))
theorem ok_rinit {f : Addr} {fd : FuncData} (F : Fun K "__init__" "Reader.__init__" st_Reader_init f fd) (G : Glb mg) (T : Txt K mg C) : FnOk P w K mg base CX0 1 f fd ["self", "calls"] (spRInit C) := by
  refine F.ok sc_Reader_init (fun vs H Q E h => ?_) (fun cdv A outer s H vs Q E hr h => ?_)
  · obtain ⟨x, dx, l, rfl, _⟩ := h
    rfl
  · obtain ⟨x, dx, l, rfl, hx, r⟩ := h
    refine ⟨_, (pss_cons (ps_fld (pv 0) (pv 1) rfl) (pss_one (ps_fld (pv 0) pe_int rfl))), ?_⟩
    refine ⟨_, rfl, _, rfl, x, _, dx, _, rfl, hx, T.cR, T.nR_calls, (by decide), ?_⟩
    refine ⟨_, rfl, x, _, dx, _, rfl, upd_same, T.cR, T.nR_place, (putF_lt (by decide)), ?_⟩
    rw [upd_upd, rf_new]
    exact r
abbrev st_Reader_has_more : Stmt := inClass (top 83) 1
theorem sc_Reader_has_more : FnScope ["self"] ["self"] (defScope st_Reader_has_more) := ⟨rfl, rfl, rfl, by decide +kernel, rfl, by decide +kernel, by decide +kernel⟩
theorem bd_Reader_has_more : BindsOf "has_more" "Reader.has_more" st_Reader_has_more ["self"] := fun _ _ _ _ _ _ us hl => match us, hl with | [_], _ => rfl
def spMore (K : PySem.W.Frag) (C : Cs) : Sp := fun vs H Q _ => ∃ (r dr l : Addr) (n : Nat) (ns : List Int), vs = [.ref r] ∧ H r = some (robj C dr l n) ∧ SqL K H l (av ns) ∧ Q (.bl (decide (n < ns.length))) H
theorem ok_more {f : Addr} {fd : FuncData} (F : Fun K "has_more" "Reader.has_more" st_Reader_has_more f fd) (G : Glb mg) (T : Txt K mg C) : FnOk P w K mg base CX0 1 f fd ["self"] (spMore K C) := by
  refine F.ok sc_Reader_has_more (fun vs H Q E h => ?_) (fun cdv A outer s H vs Q E hr h => ?_)
  · obtain ⟨r, dr, l, n, ns, rfl, _⟩ := h
    rfl
  · obtain ⟨r, dr, l, n, ns, rfl, hx, hl, q⟩ := h
    have hx : H r = some (.ins C.R dr (rf (.ref l) (.int (n : Nat)))) := hx
    refine ⟨_, (pss_one (ps_ret (pe_cmpR op_lt (pe_fld (pv 0) rfl) (pe_callB call_len_seq rfl G.len boot_len (pa_cons (pe_fld (pv 0) rfl) pa_nil)) (nomark _)))), ?_⟩
    refine ⟨_, rfl, _, _, _, _, _, rfl, hx, T.cR, T.nR_place, rf_place, _, rfl, _, _, _, _, _, rfl, hx, T.cR, T.nR_calls, rf_calls, l, _, rfl, .inl hl, _, _, rfl, rfl, ?_⟩
    have e : decide (((n : Nat) : Int) < ((av ns).length : Nat)) = decide (n < ns.length) := decide_eq_decide.mpr (by rw [av_len]; omega)
    show Q (.bl (decide (((n : Nat) : Int) < ((av ns).length : Nat)))) H
    rw [e]
    exact q
abbrev st_Reader_number : Stmt := inClass (top 83) 2
theorem sc_Reader_number : FnScope ["self"] ["self"] (defScope st_Reader_number) := ⟨rfl, rfl, rfl, by decide +kernel, rfl, by decide +kernel, by decide +kernel⟩
theorem bd_Reader_number : BindsOf "number" "Reader.number" st_Reader_number ["self"] := fun _ _ _ _ _ _ us hl => match us, hl with | [_], _ => rfl
def spNumber (K : PySem.W.Frag) (C : Cs) : Sp := fun vs H Q _ => ∃ (r dr l : Addr) (n : Nat) (ns t : List Int) (z : Int), vs = [.ref r] ∧ H r = some (robj C dr l n) ∧ SqL K H l (av ns) ∧ ns.drop n = z :: t ∧ Q (.int z) (upd H r (robj C dr l (n + 1)))
theorem ok_number {f : Addr} {fd : FuncData} (F : Fun K "number" "Reader.number" st_Reader_number f fd) (G : Glb mg) (T : Txt K mg C) : FnOk P w K mg base CX0 1 f fd ["self"] (spNumber K C) := by
  refine F.ok sc_Reader_number (fun vs H Q E h => ?_) (fun cdv A outer s H vs Q E hr h => ?_)
  · obtain ⟨r, dr, l, n, ns, t, z, rfl, _⟩ := h
    rfl
  · obtain ⟨r, dr, l, n, ns, t, z, rfl, hx, hl, hd, q⟩ := h
    have hx : H r = some (.ins C.R dr (rf (.ref l) (.int (n : Nat)))) := hx
    obtain ⟨h1, h2, h3⟩ := drop_get hd
    refine ⟨_, (pss_cons (ps_fld (pv 0) (pe_op op_add (pe_fld (pv 0) rfl) pe_int) rfl) (pss_one (ps_ret (pe_ix ix_list (pe_fld (pv 0) rfl) (pe_op op_sub (pe_fld (pv 0) rfl) pe_int) (fun _ _ => rfl))))), ?_⟩
    refine ⟨_, rfl, _, _, _, _, _, rfl, hx, T.cR, T.nR_place, rf_place, _, _, rfl, rfl, _, rfl, _, _, _, _, rfl, hx, T.cR, T.nR_place, (by show 2 < 1000; decide), ?_⟩
    rw [rf_put_place]
    have en : ((n : Nat) : Int) + 1 = ((n + 1 : Nat) : Int) := by omega
    try dsimp only [L2.start, Z1, Z2, Z3, Z4, Z5, Z6, List.replicate, Z7, Z8, Nat.reduceAdd, Nat.reduceSub, Nat.zero_add]
    rw [en]
    have e2 : ((n + 1 : Nat) : Int) - 1 = ((n : Nat) : Int) := by omega
    refine ⟨_, rfl, _, _, _, _, _, rfl, upd_same, T.cR, T.nR_calls, rf_calls, _, rfl, _, _, _, _, _, rfl, upd_same, T.cR, T.nR_place, rf_place, _, _, rfl, rfl, l, _, _, _, rfl, rfl, SqL.upd_ins hl hx, ?_, q⟩
    show atI (av ns) (((n + 1 : Nat) : Int) - 1) = some (V.int z)
    rw [e2]
    exact atI_nat (av_at h1)
abbrev st_Reader_row : Stmt := inClass (top 83) 3
theorem sc_Reader_row : FnScope ["self", "size"] ["self"] (defScope st_Reader_row) := ⟨rfl, rfl, rfl, by decide +kernel, rfl, by decide +kernel, by decide +kernel⟩
theorem bd_Reader_row : BindsOf "row" "Reader.row" st_Reader_row ["self"] := fun _ _ _ _ _ _ us hl => match us, hl with | [_], _ => rfl
def spRow (K : PySem.W.Frag) (C : Cs) : Sp := fun vs H Q _ => ∃ (r dr l : Addr) (n : Nat) (ns k t : List Int), vs = [.ref r] ∧ H r = some (robj C dr l n) ∧ SqL K H l (av ns) ∧ ns.drop n = (k.length : Int) :: (k ++ t) ∧
  ∀ (H' : Hp) (p : Addr), Keep H H' [r] → H' r = some (robj C dr l (n + 1 + k.length)) → H p = none → H' p = some (.lst (av k)) → ns.drop (n + 1 + k.length) = t → n + 1 + k.length ≤ ns.length → Q (.ref p) H'
theorem ok_row {f : Addr} {fd : FuncData} (F : Fun K "row" "Reader.row" st_Reader_row f fd) (G : Glb mg) (T : Txt K mg C) (F_number : Mt P w K mg base C.R "number" 1 ["self"] (spNumber K C)) : FnOk P w K mg base CX0 2 f fd ["self"] (spRow K C) := by
  refine F.ok sc_Reader_row (fun vs H Q E h => ?_) (fun cdv A outer s H vs Q E hr h => ?_)
  · obtain ⟨r, dr, l, n, ns, k, t, rfl, _⟩ := h
    rfl
  · obtain ⟨r, dr, l, n, ns, k, t, rfl, hx, hl, hd, q⟩ := h
    have hx' : H r = some (.ins C.R dr (rf (.ref l) (.int (n : Nat)))) := hx
    obtain ⟨h1, h2, h3⟩ := drop_get hd
    refine ⟨_, (pss_cons (ps_set (i := 1) sc_Reader_row.nd rfl (Or.inl rfl) (pe_mtX0 (pv 0) T.cR F_number hr (by decide) pass0)) (pss_cons (ps_fld (pv 0) (pe_op op_add (pe_fld (pv 0) rfl) (pv 1)) rfl) (pss_one (ps_ret (pe_slice sl_list (pe_fld (pv 0) rfl) (po_some (pe_op op_sub (pe_fld (pv 0) rfl) (pv 1))) (po_some (pe_fld (pv 0) rfl))))))), ?_⟩
    refine ⟨_, rfl, _, _, _, rfl, hx', rf_no (by decide +kernel), r, dr, l, n, ns, _, _, rfl, hx, hl, hd, ?_⟩
    try dsimp only [L2.start, Z1, Z2, Z3, Z4, Z5, Z6, List.replicate, Z7, Z8, Nat.reduceAdd, Nat.reduceSub, Nat.zero_add]
    have x1 : upd H r (robj C dr l (n + 1)) r = some (.ins C.R dr (rf (.ref l) (.int ((n + 1 : Nat) : Int)))) := upd_same
    refine ⟨_, rfl, _, _, _, _, _, rfl, x1, T.cR, T.nR_place, rf_place, _, rfl, _, _, rfl, rfl, _, rfl, _, _, _, _, rfl, x1, T.cR, T.nR_place, (by show 2 < 1000; decide), ?_⟩
    rw [rf_put_place]
    have en : ((n + 1 : Nat) : Int) + (k.length : Int) = ((n + 1 + k.length : Nat) : Int) := by omega
    try dsimp only [L2.start, Z1, Z2, Z3, Z4, Z5, Z6, List.replicate, Z7, Z8, Nat.reduceAdd, Nat.reduceSub, Nat.zero_add]
    rw [en, upd_upd]
    have x2 := upd_same (H := H) (a := r) (o := .ins C.R dr (rf (.ref l) (.int ((n + 1 + k.length : Nat) : Int))))
    have hl2 : SqL K (upd H r (.ins C.R dr (rf (.ref l) (.int ((n + 1 + k.length : Nat) : Int))))) l (av ns) := SqL.upd_ins hl hx'
    refine ⟨_, rfl, _, _, _, _, _, rfl, x2, T.cR, T.nR_calls, rf_calls, _, rfl, _, _, _, _, _, rfl, x2, T.cR, T.nR_place, rf_place, _, rfl, _, _, rfl, rfl, _, rfl, _, rfl, _, _, _, _, _, rfl, x2, T.cR, T.nR_place, rf_place, _, rfl, l, _, rfl, hl2, fun p hp => ?_⟩
    have e2 : ((n + 1 + k.length : Nat) : Int) - (k.length : Int) = ((n + 1 : Nat) : Int) := by omega
    have ec : cutV (av ns) (some (((n + 1 + k.length : Nat) : Int) - (k.length : Int))) (some ((n + 1 + k.length : Nat) : Int)) = av k := by
      rw [e2, cut_nn, av_drop, av_take, h3, show n + 1 + k.length - (n + 1) = k.length by omega, List.take_left]
    try dsimp only [L2.start, Z1, Z2, Z3, Z4, Z5, Z6, List.replicate, Z7, Z8, Nat.reduceAdd, Nat.reduceSub, Nat.zero_add]
    rw [ec]
    have f0 : H p = none := by
      rcases Keep.of_upd.free hp with z | z
      · exact z
      · rw [List.mem_singleton.mp z, x2] at hp; cases hp
    refine q _ p ((Keep.of_upd (H := H) (a := r)).upd_in (.inr f0)) ?_ f0 upd_same ?_ ?_
    · exact (upd_ne (fun z => by rw [← z, x2] at hp; cases hp)).trans x2
    · rw [← List.drop_drop, h3, List.drop_left]
    · have := congrArg List.length h3
      rw [List.length_drop, List.length_append] at this
      omega
end
end S
namespace L2
open PySem PySem.Spec PyProof.Rows S
section
variable {H H1 : Hp} {A B L : List (Addr × HO)} {r p : Addr} {o o' u : HO} {a : Addr × HO}
theorem Cells.asc (c : Cells H (A ++ a :: B)) : Cells H ((A ++ [a]) ++ B) := by rw [List.append_assoc]; exact c
theorem Cells.asc2 (c : Cells H ((A ++ B) ++ L)) : Cells H (A ++ (B ++ L)) := by rw [List.append_assoc] at c; exact c
theorem Cells.asc1 (c : Cells H (A ++ (B ++ L))) : Cells H ((A ++ B) ++ L) := by rw [List.append_assoc]; exact c
theorem Cells.row (c : Cells H (A ++ (r, o) :: L)) (k : Keep H H1 [r]) (e : H1 r = some o') (n : H p = none) (q : H1 p = some u) : Cells H1 (A ++ (p, u) :: (r, o') :: L) := by
  refine Cells.insert (c.putM k e) ?_ q
  rw [fst_mid (o := o)]
  exact c.notin n
theorem Cells.tail (c : Cells H (A ++ a :: L)) : Cells H L := Cells.sub (Cells.back c) (List.sublist_cons_self _ _)
end
end L2
namespace S
open PySem PySem.Spec PyProof.Rows L2
def BytesOk (k : List Int) : Prop := k.all (fun (z : Int) => Sf83Neutral.natural z 8) = true
theorem bs_len (k : List Int) : (Sf83Neutral.bs k).length = k.length := List.length_map ..
theorem bs_bv : ∀ {k : List Int}, BytesOk k → av k = bv (Sf83Neutral.bs k)
  | [], _ => rfl
  | z :: k, h => by
    unfold BytesOk at h
    rw [List.all_cons, Bool.and_eq_true] at h
    have ih := bs_bv (k := k) h.2
    have hz := h.1
    unfold Sf83Neutral.natural at hz
    rw [Bool.and_eq_true, decide_eq_true_eq, decide_eq_true_eq] at hz
    have h8 : (2 : Int) ^ 8 = 256 := by decide
    show V.int z :: av k = V.int ((UInt8.ofNat z.toNat).toNat : Int) :: bv (Sf83Neutral.bs k)
    rw [ih, byte_val (by omega), show ((z.toNat : Nat) : Int) = z by omega]
structure AIn (K : PySem.W.Frag) (C : Cs) (H : Hp) (x : EA) (s : Sf83.S) (LG L : List (Addr × HO)) (r dr l : Addr) (n : Nat) (ns : List Int) : Prop where
  gr : Greets C x s LG
  ft : Fit s
  cl : Cells H ((eCells C x s ++ LG) ++ (r, robj C dr l n) :: L)
  sq : ∀ H', Cells H' L → SqL K H' l (av ns)
  bo : s.out.length ≤ 8000000
  bp : s.plain.length + s.kept.length ≤ n
  nl : ns.length ≤ 30000
def AOut (C : Cs) (e : Addr) (s' : Sf83.S) (a : List Int) (L : List (Addr × HO)) (r dr l : Addr) (n : Nat) (ns t : List Int) (Q : VK) : Prop :=
  ∀ (H' : Hp) (x' : EA) (LG' : List (Addr × HO)) (p : Addr) (n' : Nat), x'.e = e → Greets C x' s' LG' → n ≤ n' → n' ≤ ns.length → ns.drop n' = t → Cells H' ((eCells C x' s' ++ LG') ++ (p, .lst (av a)) :: (r, robj C dr l n') :: L) → Q (.ref p) H'
def spA (K : PySem.W.Frag) (C : Cs) (args : List Int → Sf83.Call → List Int → Prop) : Sp := fun vs H Q _ => ∃ (x : EA) (s : Sf83.S) (LG L : List (Addr × HO)) (r dr l : Addr) (n : Nat) (ns : List Int) (q : Sf83.Call) (t : List Int), vs = [.ref x.e, .ref r] ∧ AIn K C H x s LG L r dr l n ns ∧ n ≤ ns.length ∧ args (ns.drop n) q t ∧
  AOut C x.e (Sf83.does s q).1 (Sf83Neutral.listOf (Sf83.does s q).2) L r dr l n ns t Q
theorem spA_len {K : PySem.W.Frag} {C : Cs} {args : List Int → Sf83.Call → List Int → Prop} : ∀ vs H Q E, spA K C args vs H Q E → vs.length = (["end", "reader"] : List Str).length := by
  rintro vs H Q E ⟨x, s, LG, L, r, dr, l, n, ns, q, t, rfl, _⟩
  rfl
def aRow (f : List UInt8 → Sf83.Call) : List Int → Sf83.Call → List Int → Prop := fun rest q t => ∃ k : List Int, rest = (k.length : Int) :: (k ++ t) ∧ BytesOk k ∧ q = f (Sf83Neutral.bs k)
def aRow2 (f : List UInt8 → List UInt8 → Sf83.Call) : List Int → Sf83.Call → List Int → Prop := fun rest q t => ∃ k u : List Int, rest = (k.length : Int) :: (k ++ ((u.length : Int) :: (u ++ t))) ∧ BytesOk k ∧ BytesOk u ∧ q = f (Sf83Neutral.bs k) (Sf83Neutral.bs u)
def aRow4 (f : List UInt8 → List UInt8 → List UInt8 → List UInt8 → Sf83.Call) : List Int → Sf83.Call → List Int → Prop := fun rest q t => ∃ k u v y : List Int, rest = (k.length : Int) :: (k ++ ((u.length : Int) :: (u ++ ((v.length : Int) :: (v ++ ((y.length : Int) :: (y ++ t))))))) ∧ BytesOk k ∧ BytesOk u ∧ BytesOk v ∧ BytesOk y ∧ q = f (Sf83Neutral.bs k) (Sf83Neutral.bs u) (Sf83Neutral.bs v) (Sf83Neutral.bs y)
def aNone (q0 : Sf83.Call) : List Int → Sf83.Call → List Int → Prop := fun rest q t => rest = t ∧ q = q0
def aInt (f : Int → Sf83.Call) : List Int → Sf83.Call → List Int → Prop := fun rest q t => ∃ m : Int, rest = m :: t ∧ q = f m
def aOpen : List Int → Sf83.Call → List Int → Prop := fun rest q t => ∃ (i e : Int) (a b c : List Int), rest = i :: e :: ((a.length : Int) :: (a ++ ((b.length : Int) :: (b ++ ((c.length : Int) :: (c ++ t)))))) ∧ BytesOk a ∧ BytesOk b ∧ BytesOk c ∧ q = .open_ i e (Sf83Neutral.bs a) (Sf83Neutral.bs b) (Sf83Neutral.bs c)
theorem Keep1 {H : Hp} {a : Addr} {o : HO} : Keep H (upd H a o) [a] := Keep.of_upd
structure SameG (s s' : Sf83.S) : Prop where
  ph : s'.phase = s.phase
  fi : s'.first = s.first
  mi : s'.mine = s.mine
  th : s'.theirs = s.theirs
  fl : s'.fleeting = s.fleeting
  ch : s'.chain = s.chain
theorem SameG.refl (s : Sf83.S) : SameG s s := ⟨rfl, rfl, rfl, rfl, rfl, rfl⟩
theorem SameG.trans {a b c : Sf83.S} (h : SameG a b) (k : SameG b c) : SameG a c := ⟨k.ph.trans h.ph, k.fi.trans h.fi, k.mi.trans h.mi, k.th.trans h.th, k.fl.trans h.fl, k.ch.trans h.ch⟩
theorem Greets.of {C : Cs} {x x' : EA} {s s' : Sf83.S} {LG : List (Addr × HO)} (g : Greets C x s LG) (e : x'.gr = x.gr) (h : SameG s s') : Greets C x' s' LG := by
  unfold Greets at g ⊢
  rw [h.ph, h.fi, h.mi, h.th, h.fl, h.ch, e]
  exact g
theorem sameG_record (s : Sf83.S) (k : Nat) (b : List UInt8) : SameG s (s.record k b) := by
  rw [record_eq]
  exact ⟨rfl, rfl, rfl, rfl, rfl, rfl⟩
theorem sameG_due (s : Sf83.S) : SameG s s.due := by
  unfold Sf83.S.due
  split
  · exact sameG_record _ _ _
  · exact SameG.refl _
theorem sameG_write : ∀ (f : Nat) (s : Sf83.S) (b : List UInt8), SameG s (Sf83.S.write f s b)
  | 0, s, b => SameG.refl s
  | f + 1, s, b => by
    rw [write_step]
    split
    · exact SameG.refl s
    · exact ((sameG_due s).trans (sameG_record _ _ _)).trans (sameG_write f _ _)
theorem sameG_dwrite (s : Sf83.S) (b : List UInt8) : SameG s (Sf83.does s (.write b)).1 := by
  rw [does_write]
  split
  · exact SameG.refl s
  · split
    · exact SameG.refl s
    · exact sameG_write _ _ _
theorem sameG_drenew (s : Sf83.S) : SameG s (Sf83.does s .renew).1 := by
  rw [does_renew]
  split
  · exact SameG.refl s
  · exact sameG_record s 1 []
theorem sameG_dend (s : Sf83.S) : SameG s (Sf83.does s .end_).1 := by
  rw [does_end]
  split
  · exact SameG.refl s
  · have h := (sameG_due s).trans (sameG_record s.due 2 [])
    exact ⟨h.ph, h.fi, h.mi, h.th, h.fl, h.ch⟩
theorem sameG_dtake (s : Sf83.S) (m : Int) : SameG s (Sf83.does s (.take m)).1 := by
  unfold Sf83.does
  dsimp only
  split
  · exact SameG.refl s
  · exact ⟨rfl, rfl, rfl, rfl, rfl, rfl⟩
theorem sameG_dread (s : Sf83.S) (m : Int) : SameG s (Sf83.does s (.read m)).1 := by
  unfold Sf83.does
  dsimp only
  split
  · exact SameG.refl s
  · exact ⟨rfl, rfl, rfl, rfl, rfl, rfl⟩
section
variable {P : Program} {w : World} {K : PySem.W.Frag} {mg : Str → Option Value} {base : Heap} {C : Cs}
abbrev st_answer_public : Stmt := top 85
theorem sc_answer_public : FnScope ["end", "reader", "key"] ["end", "reader"] (defScope st_answer_public) := ⟨rfl, rfl, rfl, by decide +kernel, rfl, by decide +kernel, by decide +kernel⟩
theorem bd_answer_public : BindsOf "answer_public" "answer_public" st_answer_public ["end", "reader"] := fun _ _ _ _ _ _ us hl => match us, hl with | [_, _], _ => rfl
theorem does_public (s : Sf83.S) (k : List UInt8) : Sf83.does s (.public_ k) = (s, if k.length ≠ 32 then Sf83.says (-1) else ⟨32, Sf83.nums (Sf83.publicOf k)⟩) := rfl
theorem ok_apublic {f : Addr} {fd : FuncData} (F : Fun K "answer_public" "answer_public" st_answer_public f fd) (G : Glb mg) (T : Txt K mg C) (F_row : Mt P w K mg base C.R "row" 2 ["self"] (spRow K C)) (F_public_key : Fn P w K mg base "public_key" 4 ["key"] (spPub K)) : FnOk P w K mg base CX0 5 f fd ["end", "reader"] (spA K C (aRow .public_)) := by
  refine F.ok sc_answer_public spA_len (fun cdv A outer s H vs Q E hr h => ?_)
  · obtain ⟨x, st, LG, L, r, dr, l, n, ns, q, t, rfl, I, hn, ⟨k, hk, ok, rfl⟩, out⟩ := h
    refine ⟨_, (pss_cons (ps_set (i := 2) sc_answer_public.nd rfl (Or.inl rfl) (pe_mtX0 (pv 1) T.cR F_row hr (by decide) pass0)) (pss_cons (ps_if (pt_cmpR op_ne (pe_callB call_len_seq rfl G.len boot_len (pa_cons (pv 2) pa_nil)) (pe_gint G.ksize) (nomark _)) (pss_one (ps_ret (pe_lst (pa_cons (pe_gint G.UNFIT) pa_nil)))) pss_nil) (pss_one (ps_ret (pe_op op_cat (pe_lst (pa_cons (pe_gint G.ksize) pa_nil)) (pe_fn F_public_key hr (pa_cons (pv 2) pa_nil))))))), ?_⟩
    rw [does_public, bs_len] at out
    refine ⟨_, rfl, _, _, _, rfl, I.cl.memb, rf_no (by decide +kernel), r, dr, l, n, ns, k, t, rfl, I.cl.memb, I.sq _ I.cl.tail, hk, fun H1 p1 k1 o1 n1 q1 d1 b1 => ?_⟩
    have c1 := I.cl.row k1 o1 n1 q1
    try dsimp only [L2.start, Z1, Z2, Z3, Z4, Z5, Z6, List.replicate, Z7, Z8, Nat.reduceAdd, Nat.reduceSub, Nat.zero_add]
    rw [bs_bv ok] at q1
    refine ⟨_, rfl, p1, _, rfl, .inl (SqL.of q1), rfl, _, rfl, ifU (fun z => ?_) fun z => ?_⟩
    · rw [if_pos (by intro y; exact z (by rw [bv_len, bs_len]; omega))] at out
      exact ⟨one_le, fun p hp => out _ x LG p _ rfl I.gr (by omega) b1 d1 (Cells.midU (Cells.unmid c1) _ hp)⟩
    · have hl : k.length = 32 := by rw [bv_len, bs_len] at z; omega
      rw [if_neg (by omega)] at out
      refine ⟨one_le, fun p2 n2 => ?_⟩
      have u2 := (Same.refl _).upd (o := .lst [V.int 32]) n2
      refine ⟨_, rfl, p1, Sf83Neutral.bs k, rfl, SqL.of (u2 _ _ q1), by rw [bs_len]; omega, fun H3 p3 s3 n3 e3 => ?_⟩
      have lp : (Sf83.publicOf (Sf83Neutral.bs k)).length = 32 := M.point_len _ _
      generalize Sf83.publicOf (Sf83Neutral.bs k) = pk at *
      refine ⟨p2, p3, _, _, rfl, rfl, s3 _ _ upd_same, e3, by rw [bv_len, lp, sizeLine_eq]; show 1 + 32 ≤ _; decide, fun p4 n4 => ?_⟩
      refine out _ x LG p4 _ rfl I.gr (by omega) b1 d1 ?_
      have ea : [V.int 32] ++ bv pk = av (Sf83Neutral.listOf ⟨32, Sf83.nums pk⟩) := by rw [← av_nums]; rfl
      rw [ea]
      exact Cells.midU ((Cells.unmid c1).same (u2.trans s3)) _ n4
abbrev st_answer_shared : Stmt := top 86
theorem sc_answer_shared : FnScope ["end", "reader", "key", "u", "secret"] ["end", "reader"] (defScope st_answer_shared) := ⟨rfl, rfl, rfl, by decide +kernel, rfl, by decide +kernel, by decide +kernel⟩
theorem bd_answer_shared : BindsOf "answer_shared" "answer_shared" st_answer_shared ["end", "reader"] := fun _ _ _ _ _ _ us hl => match us, hl with | [_, _], _ => rfl
theorem does_shared (s : Sf83.S) (k u : List UInt8) : Sf83.does s (.shared k u) = (s, if k.length ≠ 32 ∨ u.length ≠ 32 then Sf83.says (-1) else if Sf83.point k u = Sf83.zeros 32 then Sf83.says (-3) else ⟨32, Sf83.nums (Sf83.point k u)⟩) := rfl
theorem ok_ashared {f : Addr} {fd : FuncData} (F : Fun K "answer_shared" "answer_shared" st_answer_shared f fd) (G : Glb mg) (T : Txt K mg C) (F_row : Mt P w K mg base C.R "row" 2 ["self"] (spRow K C)) (F_point : Fn P w K mg base "point" 3 ["key", "u"] (spPoint K)) (F_is_zero : Fn P w K mg base "is_zero" 1 ["row"] (spZero K)) :
    FnOk P w K mg base CX0 4 f fd ["end", "reader"] (spA K C (aRow2 .shared)) := by
  refine F.ok sc_answer_shared spA_len (fun cdv A outer s H vs Q E hr h => ?_)
  · obtain ⟨x, st, LG, L, r, dr, l, n, ns, q, t, rfl, I, hn, ⟨k, u, hk, ok, ok2, rfl⟩, out⟩ := h
    refine ⟨_, (pss_cons (ps_set (i := 2) sc_answer_shared.nd rfl (Or.inl rfl) (pe_mtX0 (pv 1) T.cR F_row hr (by decide) pass0)) (pss_cons (ps_set (i := 3) sc_answer_shared.nd rfl (Or.inl rfl) (pe_mtX0 (pv 1) T.cR F_row hr (by decide) pass0)) (pss_cons (ps_if (PW.pt (pw_or (pt_cmpR op_ne (pe_callB call_len_seq rfl G.len boot_len (pa_cons (pv 2) pa_nil)) (pe_gint G.ksize) (nomark _)) (pw_or1 (pt_cmpR op_ne (pe_callB call_len_seq rfl G.len boot_len (pa_cons (pv 3) pa_nil)) (pe_gint G.ksize) (nomark _))))) (pss_one (ps_ret (pe_lst (pa_cons (pe_gint G.UNFIT) pa_nil)))) pss_nil) (pss_cons (ps_set (i := 4) sc_answer_shared.nd rfl (Or.inl rfl) (pe_fn F_point hr (pa_cons (pv 2) (pa_cons (pv 3) pa_nil)))) (pss_cons (ps_if (pt_truth (pe_fn F_is_zero hr (pa_cons (pv 4) pa_nil)) (fun _ => rfl)) (pss_one (ps_ret (pe_lst (pa_cons (pe_gint G.IS_BROKEN) pa_nil)))) pss_nil) (pss_one (ps_ret (pe_op op_cat (pe_lst (pa_cons (pe_gint G.ksize) pa_nil)) (pv 4))))))))), ?_⟩
    rw [does_shared, bs_len, bs_len] at out
    refine ⟨_, rfl, _, _, _, rfl, I.cl.memb, rf_no (by decide +kernel), r, dr, l, n, ns, k, _, rfl, I.cl.memb, I.sq _ I.cl.tail, hk, fun H1 p1 k1 o1 n1 q1 d1 b1 => ?_⟩
    have c1 := (I.cl.row k1 o1 n1 q1).asc
    try dsimp only [L2.start, Z1, Z2, Z3, Z4, Z5, Z6, List.replicate, Z7, Z8, Nat.reduceAdd, Nat.reduceSub, Nat.zero_add]
    refine ⟨_, rfl, _, _, _, rfl, c1.memb, rf_no (by decide +kernel), r, dr, l, _, ns, u, t, rfl, c1.memb, I.sq _ c1.tail, d1, fun H2 p2 k2 o2 n2 q2 d2 b2 => ?_⟩
    have c2 := c1.row k2 o2 n2 q2
    have q1' : H2 p1 = some (.lst (av k)) := k2 _ _ q1 (fun z => by have e := List.mem_singleton.mp z; rw [e, o1] at q1; cases q1)
    rw [bs_bv ok] at q1'
    rw [bs_bv ok2] at q2
    have c3 : Cells H2 ((eCells C x st ++ LG) ++ (r, robj C dr l (n + 1 + k.length + 1 + u.length)) :: L) := Cells.unmid (A := eCells C x st ++ LG) (by have z := Cells.unmid c2; rw [List.append_assoc] at z; exact z)
    try dsimp only [L2.start, Z1, Z2, Z3, Z4, Z5, Z6, List.replicate, Z7, Z8, Nat.reduceAdd, Nat.reduceSub, Nat.zero_add]
    have bad : (k.length ≠ 32 ∨ u.length ≠ 32) → ∀ p, H2 p = none → Q (.ref p) (upd H2 p (.lst [V.int (-1)])) := fun hb p hp => by
      rw [if_pos hb] at out
      exact out _ x LG p _ rfl I.gr (by omega) b2 d2 (Cells.midU c3 _ hp)
    refine ⟨_, rfl, p1, _, rfl, .inl (SqL.of q1'), rfl, _, rfl, ifU (fun z => iteT ?_) fun z => ?_⟩
    · exact ⟨one_le, bad (.inl (by intro y; exact z (by rw [bv_len, bs_len]; omega)))⟩
    · have hl : k.length = 32 := by rw [bv_len, bs_len] at z; omega
      refine ⟨_, rfl, p2, _, rfl, .inl (SqL.of q2), rfl, _, rfl, ifU (fun z2 => ?_) fun z2 => ?_⟩
      · exact ⟨one_le, bad (.inr (by intro y; exact z2 (by rw [bv_len, bs_len]; omega)))⟩
      · have hl2 : u.length = 32 := by rw [bv_len, bs_len] at z2; omega
        rw [if_neg (by rintro (y | y) <;> omega)] at out
        refine ⟨_, rfl, _, rfl, p1, p2, _, _, rfl, SqL.of q1', SqL.of q2, by rw [bs_len]; omega, by rw [bs_len]; omega, fun H3 p3 s3 n3 e3 => ?_⟩
        have lp : (Sf83.point (Sf83Neutral.bs k) (Sf83Neutral.bs u)).length = 32 := M.point_len _ _
        generalize Sf83.point (Sf83Neutral.bs k) (Sf83Neutral.bs u) = pk at *
        try dsimp only [L2.start, Z1, Z2, Z3, Z4, Z5, Z6, List.replicate, Z7, Z8, Nat.reduceAdd, Nat.reduceSub, Nat.zero_add]
        refine ⟨_, rfl, p3, pk, rfl, SqL.of e3, lp, _, rfl, ifD (fun z3 => ?_) fun z3 => ?_⟩
        · rw [if_pos z3] at out
          exact ⟨one_le, fun p hp => out _ x LG p _ rfl I.gr (by omega) b2 d2 (Cells.midU (c3.same s3) _ hp)⟩
        · rw [if_neg z3] at out
          refine ⟨one_le, fun p4 n4 => ?_⟩
          have u4 := (Same.refl _).upd (o := .lst [V.int 32]) n4
          refine ⟨_, rfl, p4, p3, _, _, rfl, rfl, upd_same, u4 _ _ e3, by rw [bv_len, lp, sizeLine_eq]; show 1 + 32 ≤ _; decide, fun p5 n5 => ?_⟩
          refine out _ x LG p5 _ rfl I.gr (by omega) b2 d2 ?_
          have ea : [V.int 32] ++ bv pk = av (Sf83Neutral.listOf ⟨32, Sf83.nums pk⟩) := by rw [← av_nums]; rfl
          rw [ea]
          exact Cells.midU ((c3.same s3).same u4) _ n5
end
section
variable {P : Program} {w : World} {K : PySem.W.Frag} {mg : Str → Option Value} {base : Heap} {C : Cs}
theorem ans_says (s : Sf83.S) (a : Sf83.Ans) (h : a.out = []) : av (Sf83Neutral.listOf a) = [V.int a.value] := by
  unfold Sf83Neutral.listOf
  rw [h]
  rfl
theorem says_write (s : Sf83.S) (b : List UInt8) : (Sf83.does s (.write b)).2.out = [] := by
  rw [does_write]
  split
  · rfl
  · split <;> rfl
theorem says_renew (s : Sf83.S) : (Sf83.does s .renew).2.out = [] := by
  rw [does_renew]
  split <;> rfl
theorem says_end (s : Sf83.S) : (Sf83.does s .end_).2.out = [] := by
  rw [does_end]
  split <;> rfl
theorem says_came (s : Sf83.S) (b : List UInt8) : (Sf83.does s (.came b)).2.out = [] := by
  rw [does_came]
  split
  · rfl
  · split
    · rfl
    · split <;> rfl
abbrev st_answer_renew : Stmt := top 88
theorem sc_answer_renew : FnScope ["end", "reader"] ["end", "reader"] (defScope st_answer_renew) := ⟨rfl, rfl, rfl, by decide +kernel, rfl, by decide +kernel, by decide +kernel⟩
theorem bd_answer_renew : BindsOf "answer_renew" "answer_renew" st_answer_renew ["end", "reader"] := fun _ _ _ _ _ _ us hl => match us, hl with | [_, _], _ => rfl
theorem ok_arenew {f : Addr} {fd : FuncData} (F : Fun K "answer_renew" "answer_renew" st_answer_renew f fd) (G : Glb mg) (T : Txt K mg C) (F_renew : Mt P w K mg base C.E "renew" 10 ["self"] (spRenew C)) : FnOk P w K mg base CX0 11 f fd ["end", "reader"] (spA K C (aNone .renew)) := by
  refine F.ok sc_answer_renew spA_len (fun cdv A outer s H vs Q E hr h => ?_)
  · obtain ⟨x, st, LG, L, r, dr, l, n, ns, q, t, rfl, I, hn, ⟨hk, rfl⟩, out⟩ := h
    refine ⟨_, (pss_one (ps_ret (pe_lst (pa_cons (pe_mtX0 (pv 0) T.cE F_renew hr (by decide) pass0) pa_nil)))), ?_⟩
    have c := I.cl.asc2
    refine ⟨_, rfl, _, _, _, rfl, c.e, ef_no (by decide +kernel), x, st, _, rfl, c, fun z => (I.ft.keys z).1, fun H1 x1 e1 g1 c1 => ⟨one_le, fun p hp => ?_⟩⟩
    refine out _ x1 LG p n e1 (I.gr.of g1 (sameG_drenew st)) (Nat.le_refl _) hn hk ?_
    rw [ans_says st _ (says_renew st)]
    exact Cells.midU c1.asc1 _ hp
abbrev st_answer_end : Stmt := top 89
theorem sc_answer_end : FnScope ["end", "reader"] ["end", "reader"] (defScope st_answer_end) := ⟨rfl, rfl, rfl, by decide +kernel, rfl, by decide +kernel, by decide +kernel⟩
theorem bd_answer_end : BindsOf "answer_end" "answer_end" st_answer_end ["end", "reader"] := fun _ _ _ _ _ _ us hl => match us, hl with | [_, _], _ => rfl
theorem ok_aend {f : Addr} {fd : FuncData} (F : Fun K "answer_end" "answer_end" st_answer_end f fd) (G : Glb mg) (T : Txt K mg C) (F_finish : Mt P w K mg base C.E "finish" 11 ["self"] (spFinish C)) : FnOk P w K mg base CX0 12 f fd ["end", "reader"] (spA K C (aNone .end_)) := by
  refine F.ok sc_answer_end spA_len (fun cdv A outer s H vs Q E hr h => ?_)
  · obtain ⟨x, st, LG, L, r, dr, l, n, ns, q, t, rfl, I, hn, ⟨hk, rfl⟩, out⟩ := h
    refine ⟨_, (pss_one (ps_ret (pe_lst (pa_cons (pe_mtX0 (pv 0) T.cE F_finish hr (by decide) pass0) pa_nil)))), ?_⟩
    have c := I.cl.asc2
    have bo := I.bo
    refine ⟨_, rfl, _, _, _, rfl, c.e, ef_no (by decide +kernel), x, st, _, rfl, c, fun z => (I.ft.keys z).1, by omega, fun H1 x1 e1 g1 c1 => ⟨one_le, fun p hp => ?_⟩⟩
    refine out _ x1 LG p n e1 (I.gr.of g1 (sameG_dend st)) (Nat.le_refl _) hn hk ?_
    rw [ans_says st _ (says_end st)]
    exact Cells.midU c1.asc1 _ hp
abbrev st_answer_cut : Stmt := top 93
theorem sc_answer_cut : FnScope ["end", "reader"] ["end", "reader"] (defScope st_answer_cut) := ⟨rfl, rfl, rfl, by decide +kernel, rfl, by decide +kernel, by decide +kernel⟩
theorem bd_answer_cut : BindsOf "answer_cut" "answer_cut" st_answer_cut ["end", "reader"] := fun _ _ _ _ _ _ us hl => match us, hl with | [_, _], _ => rfl
theorem does_cut (s : Sf83.S) : Sf83.does s .cut = (s, Sf83.says (cutOf s)) := rfl
theorem ok_acut {f : Addr} {fd : FuncData} (F : Fun K "answer_cut" "answer_cut" st_answer_cut f fd) (G : Glb mg) (T : Txt K mg C) (F_cut : Mt P w K mg base C.E "cut" 2 ["self"] (spRef C cutOf)) : FnOk P w K mg base CX0 3 f fd ["end", "reader"] (spA K C (aNone .cut)) := by
  refine F.ok sc_answer_cut spA_len (fun cdv A outer s H vs Q E hr h => ?_)
  · obtain ⟨x, st, LG, L, r, dr, l, n, ns, q, t, rfl, I, hn, ⟨hk, rfl⟩, out⟩ := h
    refine ⟨_, (pss_one (ps_ret (pe_lst (pa_cons (pe_mtX0 (pv 0) T.cE F_cut hr (by decide) pass0) pa_nil)))), ?_⟩
    rw [does_cut] at out
    have c := I.cl.asc2
    refine ⟨_, rfl, _, _, _, rfl, c.e, ef_no (by decide +kernel), x, st, _, rfl, c, ⟨one_le, fun p hp => ?_⟩⟩
    exact out _ x LG p n rfl I.gr (Nat.le_refl _) hn hk (Cells.midU I.cl _ hp)
abbrev st_answer_state : Stmt := top 94
theorem sc_answer_state : FnScope ["end", "reader"] ["end", "reader"] (defScope st_answer_state) := ⟨rfl, rfl, rfl, by decide +kernel, rfl, by decide +kernel, by decide +kernel⟩
theorem bd_answer_state : BindsOf "answer_state" "answer_state" st_answer_state ["end", "reader"] := fun _ _ _ _ _ _ us hl => match us, hl with | [_, _], _ => rfl
theorem ok_astate {f : Addr} {fd : FuncData} (F : Fun K "answer_state" "answer_state" st_answer_state f fd) (G : Glb mg) (T : Txt K mg C) (F_state : Mt P w K mg base C.E "state" 1 ["self"] (spState C)) : FnOk P w K mg base CX0 2 f fd ["end", "reader"] (spA K C (aNone .state)) := by
  refine F.ok sc_answer_state spA_len (fun cdv A outer s H vs Q E hr h => ?_)
  · obtain ⟨x, st, LG, L, r, dr, l, n, ns, q, t, rfl, I, hn, ⟨hk, rfl⟩, out⟩ := h
    refine ⟨_, (pss_one (ps_ret (pe_mtX0 (pv 0) T.cE F_state hr (by decide) pass0))), ?_⟩
    have c := I.cl.asc2
    refine ⟨_, rfl, _, _, _, rfl, c.e, ef_no (by decide +kernel), x, st, _, rfl, c, fun H1 x1 p e1 g1 c1 => ?_⟩
    refine out _ x1 LG p n e1 (I.gr.of g1 (SameG.refl st)) (Nat.le_refl _) hn hk ?_
    exact (Cells.perm c1 (List.Perm.append_left _ List.perm_middle.symm)).asc1
abbrev st_answer_take : Stmt := top 90
theorem sc_answer_take : FnScope ["end", "reader"] ["end", "reader"] (defScope st_answer_take) := ⟨rfl, rfl, rfl, by decide +kernel, rfl, by decide +kernel, by decide +kernel⟩
theorem bd_answer_take : BindsOf "answer_take" "answer_take" st_answer_take ["end", "reader"] := fun _ _ _ _ _ _ us hl => match us, hl with | [_, _], _ => rfl
theorem ok_atake {f : Addr} {fd : FuncData} (F : Fun K "answer_take" "answer_take" st_answer_take f fd) (G : Glb mg) (T : Txt K mg C) (F_take : Mt P w K mg base C.E "take" 2 ["self", "most"] (spTake C)) (F_number : Mt P w K mg base C.R "number" 1 ["self"] (spNumber K C)) : FnOk P w K mg base CX0 3 f fd ["end", "reader"] (spA K C (aInt .take)) := by
  refine F.ok sc_answer_take spA_len (fun cdv A outer s H vs Q E hr h => ?_)
  · obtain ⟨x, st, LG, L, r, dr, l, n, ns, q, t, rfl, I, hn, ⟨m, hk, rfl⟩, out⟩ := h
    refine ⟨_, (pss_one (ps_ret (pe_mtX (pv 0) T.cE F_take hr (by decide) pass0 (pa_cons (pe_mtX0 (pv 1) T.cR F_number hr (by decide) pass0) pa_nil)))), ?_⟩
    have c := I.cl.asc2
    have bo := I.bo
    obtain ⟨h1, h2, h3⟩ := drop_get hk
    refine ⟨_, rfl, _, _, _, rfl, c.e, ef_no (by decide +kernel), _, rfl, _, _, _, rfl, I.cl.memb, rf_no (by decide +kernel), r, dr, l, n, ns, t, m, rfl, I.cl.memb, I.sq _ I.cl.tail, hk, ?_⟩
    have c1 := (I.cl.putM (Keep1 (o := robj C dr l (n + 1))) upd_same).asc2
    refine ⟨x, st, _, m, rfl, c1, by omega, fun H2 x2 p e2 g2 c2 => ?_⟩
    refine out _ x2 LG p (n + 1) e2 (I.gr.of g2 (sameG_dtake st m)) (by omega) (by omega) h3 ?_
    exact (Cells.perm c2 (List.Perm.append_left _ List.perm_middle.symm)).asc1
abbrev st_answer_read : Stmt := top 92
theorem sc_answer_read : FnScope ["end", "reader"] ["end", "reader"] (defScope st_answer_read) := ⟨rfl, rfl, rfl, by decide +kernel, rfl, by decide +kernel, by decide +kernel⟩
theorem bd_answer_read : BindsOf "answer_read" "answer_read" st_answer_read ["end", "reader"] := fun _ _ _ _ _ _ us hl => match us, hl with | [_, _], _ => rfl
theorem ok_aread {f : Addr} {fd : FuncData} (F : Fun K "answer_read" "answer_read" st_answer_read f fd) (G : Glb mg) (T : Txt K mg C) (F_read : Mt P w K mg base C.E "read" 2 ["self", "most"] (spRead C)) (F_number : Mt P w K mg base C.R "number" 1 ["self"] (spNumber K C)) : FnOk P w K mg base CX0 3 f fd ["end", "reader"] (spA K C (aInt .read)) := by
  refine F.ok sc_answer_read spA_len (fun cdv A outer s H vs Q E hr h => ?_)
  · obtain ⟨x, st, LG, L, r, dr, l, n, ns, q, t, rfl, I, hn, ⟨m, hk, rfl⟩, out⟩ := h
    refine ⟨_, (pss_one (ps_ret (pe_mtX (pv 0) T.cE F_read hr (by decide) pass0 (pa_cons (pe_mtX0 (pv 1) T.cR F_number hr (by decide) pass0) pa_nil)))), ?_⟩
    have c := I.cl.asc2
    have bp := I.bp
    have nl := I.nl
    obtain ⟨h1, h2, h3⟩ := drop_get hk
    refine ⟨_, rfl, _, _, _, rfl, c.e, ef_no (by decide +kernel), _, rfl, _, _, _, rfl, I.cl.memb, rf_no (by decide +kernel), r, dr, l, n, ns, t, m, rfl, I.cl.memb, I.sq _ I.cl.tail, hk, ?_⟩
    have c1 := (I.cl.putM (Keep1 (o := robj C dr l (n + 1))) upd_same).asc2
    refine ⟨x, st, _, m, rfl, c1, by omega, fun H2 x2 p e2 g2 c2 => ?_⟩
    refine out _ x2 LG p (n + 1) e2 (I.gr.of g2 (sameG_dread st m)) (by omega) (by omega) h3 ?_
    exact (Cells.perm c2 (List.Perm.append_left _ List.perm_middle.symm)).asc1
abbrev st_answer_write : Stmt := top 87
theorem sc_answer_write : FnScope ["end", "reader"] ["end", "reader"] (defScope st_answer_write) := ⟨rfl, rfl, rfl, by decide +kernel, rfl, by decide +kernel, by decide +kernel⟩
theorem bd_answer_write : BindsOf "answer_write" "answer_write" st_answer_write ["end", "reader"] := fun _ _ _ _ _ _ us hl => match us, hl with | [_, _], _ => rfl
theorem ok_awrite {f : Addr} {fd : FuncData} (F : Fun K "answer_write" "answer_write" st_answer_write f fd) (G : Glb mg) (T : Txt K mg C) (F_write : Mt P w K mg base C.E "write" 11 ["self", "data"] (spWrite C)) (F_row : Mt P w K mg base C.R "row" 2 ["self"] (spRow K C)) : FnOk P w K mg base CX0 12 f fd ["end", "reader"] (spA K C (aRow .write)) := by
  refine F.ok sc_answer_write spA_len (fun cdv A outer s H vs Q E hr h => ?_)
  · obtain ⟨x, st, LG, L, r, dr, l, n, ns, q, t, rfl, I, hn, ⟨k, hk, ok, rfl⟩, out⟩ := h
    refine ⟨_, (pss_one (ps_ret (pe_lst (pa_cons (pe_mtX (pv 0) T.cE F_write hr (by decide) pass0 (pa_cons (pe_mtX0 (pv 1) T.cR F_row hr (by decide) pass0) pa_nil)) pa_nil)))), ?_⟩
    have c := I.cl.asc2
    have nl := I.nl
    refine ⟨_, rfl, _, _, _, rfl, c.e, ef_no (by decide +kernel), _, rfl, _, _, _, rfl, I.cl.memb, rf_no (by decide +kernel), r, dr, l, n, ns, k, t, rfl, I.cl.memb, I.sq _ I.cl.tail, hk, fun H1 p1 k1 o1 n1 q1 d1 b1 => ?_⟩
    rw [bs_bv ok] at q1
    have c1 := I.cl.row k1 o1 n1 q1
    have c2 : Cells H1 (eCells C x st ++ (p1, .lst (bv (Sf83Neutral.bs k))) :: (LG ++ (r, robj C dr l (n + 1 + k.length)) :: L)) := Cells.perm c1.asc2 (List.Perm.append_left _ List.perm_middle)
    refine ⟨x, st, _, p1, Sf83Neutral.bs k, rfl, c2, fun z => (I.ft.keys z).1, by rw [bs_len]; omega, fun H2 x2 e2 g2 c3 => ⟨one_le, fun p hp => ?_⟩⟩
    refine out _ x2 LG p _ e2 (I.gr.of g2 (sameG_dwrite st _)) (by omega) b1 d1 ?_
    rw [ans_says st _ (says_write st _)]
    exact Cells.midU (Cells.unmid c3).asc1 _ hp
abbrev st_answer_came : Stmt := top 91
theorem sc_answer_came : FnScope ["end", "reader"] ["end", "reader"] (defScope st_answer_came) := ⟨rfl, rfl, rfl, by decide +kernel, rfl, by decide +kernel, by decide +kernel⟩
theorem bd_answer_came : BindsOf "answer_came" "answer_came" st_answer_came ["end", "reader"] := fun _ _ _ _ _ _ us hl => match us, hl with | [_, _], _ => rfl
theorem ok_acame {f : Addr} {fd : FuncData} (F : Fun K "answer_came" "answer_came" st_answer_came f fd) (G : Glb mg) (T : Txt K mg C) (F_came : Mt P w K mg base C.E "came" 12 ["self", "data"] (spCame C)) (F_row : Mt P w K mg base C.R "row" 2 ["self"] (spRow K C)) : FnOk P w K mg base CX0 13 f fd ["end", "reader"] (spA K C (aRow .came)) := by
  refine F.ok sc_answer_came spA_len (fun cdv A outer s H vs Q E hr h => ?_)
  · obtain ⟨x, st, LG, L, r, dr, l, n, ns, q, t, rfl, I, hn, ⟨k, hk, ok, rfl⟩, out⟩ := h
    refine ⟨_, (pss_one (ps_ret (pe_lst (pa_cons (pe_mtX (pv 0) T.cE F_came hr (by decide) pass0 (pa_cons (pe_mtX0 (pv 1) T.cR F_row hr (by decide) pass0) pa_nil)) pa_nil)))), ?_⟩
    have c := I.cl.asc2
    have nl := I.nl
    have bo := I.bo
    have bp := I.bp
    refine ⟨_, rfl, _, _, _, rfl, c.e, ef_no (by decide +kernel), _, rfl, _, _, _, rfl, I.cl.memb, rf_no (by decide +kernel), r, dr, l, n, ns, k, t, rfl, I.cl.memb, I.sq _ I.cl.tail, hk, fun H1 p1 k1 o1 n1 q1 d1 b1 => ?_⟩
    rw [bs_bv ok] at q1
    have c1 := (I.cl.row k1 o1 n1 q1).asc2
    refine ⟨x, st, _, LG, p1, Sf83Neutral.bs k, rfl, I.gr, I.ft, c1, by omega, by rw [bs_len]; omega, fun H2 x2 LG2 e2 g2 c3 => ⟨one_le, fun p hp => ?_⟩⟩
    refine out _ x2 LG2 p _ e2 g2 (by omega) b1 d1 ?_
    rw [ans_says st _ (says_came st _)]
    exact Cells.midU (Cells.unmid (A := eCells C x2 _ ++ LG2) c3.asc1) _ hp
abbrev st_answer_begin : Stmt := top 84
theorem sc_answer_begin : FnScope ["end", "reader", "first", "every", "own", "other"] ["end", "reader"] (defScope st_answer_begin) := ⟨rfl, rfl, rfl, by decide +kernel, rfl, by decide +kernel, by decide +kernel⟩
theorem bd_answer_begin : BindsOf "answer_begin" "answer_begin" st_answer_begin ["end", "reader"] := fun _ _ _ _ _ _ us hl => match us, hl with | [_, _], _ => rfl
theorem says_open (s : Sf83.S) (i e : Int) (m t f : List UInt8) : (Sf83.does s (.open_ i e m t f)).2.out = [] := by
  by_cases h : badOpen i e m t f
  · rw [does_open_bad h]; rfl
  · by_cases hi : i = 0
    · rw [does_open_two h hi]; rfl
    · have hn := @does_open_none s i e m t f h hi
      have hs := @does_open_some s i e m t f
      generalize Sf83.dhs ([Sf83.publicOf m, t, Sf83.publicOf f].foldl Sf83.mixed Sf83.BEGIN) [(f, t), (m, t)] = r at *
      cases r with
      | none => rw [hn rfl]; rfl
      | some c => rw [hs (c := c) h hi rfl]; rfl
theorem ok_abegin {f : Addr} {fd : FuncData} (F : Fun K "answer_begin" "answer_begin" st_answer_begin f fd) (G : Glb mg) (T : Txt K mg C) (F_begin : Mt P w K mg base C.E "begin" 9 ["self", "first", "every", "own", "other", "fleeting"] (spBegin C)) (F_row : Mt P w K mg base C.R "row" 2 ["self"] (spRow K C)) (F_number : Mt P w K mg base C.R "number" 1 ["self"] (spNumber K C)) :
    FnOk P w K mg base CX0 10 f fd ["end", "reader"] (spA K C aOpen) := by
  refine F.ok sc_answer_begin spA_len (fun cdv A outer s H vs Q E hr h => ?_)
  · obtain ⟨x, st, LG, L, r, dr, l, n, ns, q, t, rfl, I, hn, ⟨i, ev, ka, kb, kc, hk, oka, okb, okc, rfl⟩, out⟩ := h
    refine ⟨_, (pss_cons (ps_set (i := 2) sc_answer_begin.nd rfl (Or.inl rfl) (pe_mtX0 (pv 1) T.cR F_number hr (by decide) pass0)) (pss_cons (ps_set (i := 3) sc_answer_begin.nd rfl (Or.inl rfl) (pe_mtX0 (pv 1) T.cR F_number hr (by decide) pass0)) (pss_cons (ps_set (i := 4) sc_answer_begin.nd rfl (Or.inl rfl) (pe_mtX0 (pv 1) T.cR F_row hr (by decide) pass0)) (pss_cons (ps_set (i := 5) sc_answer_begin.nd rfl (Or.inl rfl) (pe_mtX0 (pv 1) T.cR F_row hr (by decide) pass0)) (pss_one (ps_ret (pe_lst (pa_cons (pe_mtX (pv 0) T.cE F_begin hr (by decide) pass0 (pa_cons (pv 2) (pa_cons (pv 3) (pa_cons (pv 4) (pa_cons (pv 5) (pa_cons (pe_mtX0 (pv 1) T.cR F_row hr (by decide) pass0) pa_nil)))))) pa_nil)))))))), ?_⟩
    obtain ⟨h1, h2, h3⟩ := drop_get hk
    obtain ⟨h4, h5, h6⟩ := drop_get h3
    refine ⟨_, rfl, _, _, _, rfl, I.cl.memb, rf_no (by decide +kernel), r, dr, l, n, ns, _, i, rfl, I.cl.memb, I.sq _ I.cl.tail, hk, ?_⟩
    have c1 := I.cl.putM (Keep1 (o := robj C dr l (n + 1))) upd_same
    try dsimp only [L2.start, Z1, Z2, Z3, Z4, Z5, Z6, List.replicate, Z7, Z8, Nat.reduceAdd, Nat.reduceSub, Nat.zero_add]
    refine ⟨_, rfl, _, _, _, rfl, c1.memb, rf_no (by decide +kernel), r, dr, l, n + 1, ns, _, ev, rfl, c1.memb, I.sq _ c1.tail, h3, ?_⟩
    have c2 := c1.putM (Keep1 (o := robj C dr l (n + 1 + 1))) upd_same
    try dsimp only [L2.start, Z1, Z2, Z3, Z4, Z5, Z6, List.replicate, Z7, Z8, Nat.reduceAdd, Nat.reduceSub, Nat.zero_add]
    refine ⟨_, rfl, _, _, _, rfl, c2.memb, rf_no (by decide +kernel), r, dr, l, n + 1 + 1, ns, ka, _, rfl, c2.memb, I.sq _ c2.tail, h6, fun H3 p3 k3 o3 n3 q3 d3 b3 => ?_⟩
    rw [bs_bv oka] at q3
    have c3 := (c2.row k3 o3 n3 q3).asc
    try dsimp only [L2.start, Z1, Z2, Z3, Z4, Z5, Z6, List.replicate, Z7, Z8, Nat.reduceAdd, Nat.reduceSub, Nat.zero_add]
    refine ⟨_, rfl, _, _, _, rfl, c3.memb, rf_no (by decide +kernel), r, dr, l, _, ns, kb, _, rfl, c3.memb, I.sq _ c3.tail, d3, fun H4 p4 k4 o4 n4 q4 d4 b4 => ?_⟩
    rw [bs_bv okb] at q4
    have c4 := (c3.row k4 o4 n4 q4).asc
    try dsimp only [L2.start, Z1, Z2, Z3, Z4, Z5, Z6, List.replicate, Z7, Z8, Nat.reduceAdd, Nat.reduceSub, Nat.zero_add]
    have c4e : H4 x.e = some (.ins C.E x.de (ef (.int (Sf83.phaseOf st.phase : Nat)) (.bl st.first) (.int (st.every : Nat)) x.gr (.ref x.o) (.ref x.ar) (.ref x.rd) (.bl st.over) (.bl st.ended) (.ref x.sw) (.ref x.rw))) := by
      have z := c4.asc2.asc2.asc2
      exact z.e
    refine ⟨_, rfl, _, _, _, rfl, c4e, ef_no (by decide +kernel), _, rfl, _, rfl, _, rfl, _, rfl, _, rfl, _, _, _, rfl, c4.memb, rf_no (by decide +kernel), r, dr, l, _, ns, kc, t, rfl, c4.memb, I.sq _ c4.tail, d4, fun H5 p5 k5 o5 n5 q5 d5 b5 => ?_⟩
    rw [bs_bv okc] at q5
    have c5 := c4.row k5 o5 n5 q5
    have c6 : Cells H5 (eCells C x st ++ (LG ++ ((p3, .lst (bv (Sf83Neutral.bs ka))) :: (p4, .lst (bv (Sf83Neutral.bs kb))) :: (p5, .lst (bv (Sf83Neutral.bs kc))) :: (r, robj C dr l (n + 1 + 1 + 1 + ka.length + 1 + kb.length + 1 + kc.length)) :: L))) := by
      rw [List.append_assoc, List.append_assoc, List.append_assoc] at c5
      exact c5
    refine ⟨x, st, _, LG, i, ev, p3, p4, p5, _, _, _, rfl, I.gr, c6, fun H6 x6 LG6 e6 g6 c7 => ⟨one_le, fun p hp => ?_⟩⟩
    refine out _ x6 LG6 p _ e6 g6 (by omega) b5 d5 ?_
    rw [ans_says st _ (says_open st _ _ _ _ _)]
    exact Cells.midU c7.asc1 _ hp
end
section
variable {P : Program} {w : World} {K : PySem.W.Frag} {mg : Str → Option Value} {base : Heap} {C : Cs}
abbrev st_may_be_sealed : Stmt := top 95
theorem sc_may_be_sealed : FnScope ["key", "nonce", "others", "most", "row"] ["key", "nonce", "others", "most"] (defScope st_may_be_sealed) := ⟨rfl, rfl, rfl, by decide +kernel, rfl, by decide +kernel, by decide +kernel⟩
theorem bd_may_be_sealed : BindsOf "may_be_sealed" "may_be_sealed" st_may_be_sealed ["key", "nonce", "others", "most"] := fun _ _ _ _ _ _ us hl => match us, hl with | [_, _, _, _], _ => rfl
def badSeal (k n a b : List UInt8) (most : Nat) : Prop := k.length ≠ 32 ∨ n.length ≠ 12 ∨ most < a.length ∨ most < b.length
instance (k n a b : List UInt8) (most : Nat) : Decidable (badSeal k n a b most) := by unfold badSeal; infer_instance
def spMayS : Sp := fun vs H Q _ => ∃ (p1 p2 p a b : Addr) (k n x y : List UInt8) (most : Nat), vs = [.ref p1, .ref p2, .ref p, .int most] ∧ H p1 = some (.lst (bv k)) ∧ H p2 = some (.lst (bv n)) ∧ H p = some (.lst [.ref a, .ref b]) ∧ H a = some (.lst (bv x)) ∧ H b = some (.lst (bv y)) ∧ ∀ H', Same H H' → Q (.bl (decide (¬ badSeal k n x y most))) H'
theorem ok_mays {f : Addr} {fd : FuncData} (F : Fun K "may_be_sealed" "may_be_sealed" st_may_be_sealed f fd) (G : Glb mg) : FnOk P w K mg base CX0 1 f fd ["key", "nonce", "others", "most"] spMayS := by
  refine F.ok sc_may_be_sealed (fun vs H Q E h => ?_) (fun cdv A outer s H vs Q E hr h => ?_)
  · obtain ⟨p1, p2, p, a, b, k, n, x, y, most, rfl, _⟩ := h
    rfl
  · obtain ⟨p1, p2, p, a, b, k, n, x, y, most, rfl, h1, h2, hp, ha, hb, r⟩ := h
    refine ⟨_, (pss_cons (ps_if (PW.pt (pw_or (pt_cmpR op_ne (pe_callB call_len_seq rfl G.len boot_len (pa_cons (pv 0) pa_nil)) (pe_gint G.ksize) (nomark _)) (pw_or1 (pt_cmpR op_ne (pe_callB call_len_seq rfl G.len boot_len (pa_cons (pv 1) pa_nil)) (pe_gint G.NONCE_SIZE) (nomark _))))) (pss_one (ps_ret pe_bl)) pss_nil) (pss_one (ps_ret (pe_callB (cr_all rfl) rfl G.all boot_all (pa_cons (pe_lc (own := [("row", 4)]) rfl sc_may_be_sealed.nd (pi_list (pv 2)) (blkOk_by rfl) (fun _ _ _ _ _ => pg_name (i := 4) sc_may_be_sealed.nd rfl (Or.inl rfl)) (fun _ _ _ _ _ => pts_nil) (fun _ _ _ _ _ => (pe_cmpR op_le (pe_callB (r := rLen K) call_len_K rfl G.len boot_len (pa_cons (pv 4) pa_nil)) (pv 3) (nomark _)))) pa_nil))))), ?_⟩
    have bad : badSeal k n x y most → Q (.bl false) H := fun hb => by
      have q := r H (Same.refl H)
      rw [decide_eq_false (fun y => y hb)] at q
      exact q
    refine ⟨_, rfl, p1, _, rfl, .inl (SqL.of h1), rfl, _, rfl, ifU (fun z => iteT ?_) fun z => ?_⟩
    · exact bad (.inl fun y => z (by rw [bv_len, y]; rfl))
    · have hk : k.length = 32 := by rw [bv_len] at z; omega
      refine ⟨_, rfl, p2, _, rfl, .inl (SqL.of h2), rfl, _, rfl, ifU (fun z2 => ?_) fun z2 => ?_⟩
      · exact bad (.inr (.inl fun y => z2 (by rw [bv_len, y]; rfl)))
      · have hn : n.length = 12 := by rw [bv_len] at z2; omega
        refine ⟨_, rfl, p, rfl, ⟨_, SqL.of hp⟩, fun D hD => ?_⟩
        have row : ∀ (j : Nat) (q : V), [V.ref a, V.ref b][j]? = some q → ∃ (v : Addr) (l : List UInt8), q = .ref v ∧ H v = some (.lst (bv l)) ∧ [V.bl (decide (x.length ≤ most)), V.bl (decide (y.length ≤ most))][j]? = some (V.bl (decide (l.length ≤ most))) := by
          intro j q hq
          match j, hq with
          | 0, hq => exact ⟨a, x, (Option.some.inj hq).symm, ha, rfl⟩
          | 1, hq => exact ⟨b, y, (Option.some.inj hq).symm, hb, rfl⟩
        refine lc_gen (n := 2) [V.bl (decide (x.length ≤ most)), V.bl (decide (y.length ≤ most))] rfl two_le hD ?_ ?_ ?_ ?_ (gName_mono 4) tYes_mono
        · intro j H2 hj s2
          exact ⟨_, _, SqL.of (s2 _ _ hp), List.getElem?_eq_getElem (by show j < 2; exact hj)⟩
        · intro H2 s2
          exact ⟨_, SqL.of (s2 _ _ hp), Nat.le_refl _⟩
        · intro j H2 q H3 v hj s2 yl hy
          obtain ⟨rfl, hq⟩ := yl
          obtain ⟨w0, l, rfl, hl, hv⟩ := row j q (hq _ (SqL.of (s2 _ _ hp)))
          have ey := Option.some.inj (hy.symm.trans hv)
          subst ey
          refine ⟨Same.refl _, fun KK hK => ⟨rfl, iteT (B := False) ?_⟩⟩
          refine ⟨_, rfl, w0, _, rfl, .inl (SqL.of (s2 _ _ hl)), _, rfl, _, _, rfl, rfl, ?_⟩
          have ed : decide (((bv l).length : Int) ≤ ((most : Nat) : Int)) = decide (l.length ≤ most) := decide_eq_decide.mpr (by rw [bv_len]; omega)
          show KK (.bl (decide (((bv l).length : Int) ≤ ((most : Nat) : Int)))) _
          rw [ed]
          exact hK _ (Same.refl _)
        · intro H2 s2 hl
          refine ⟨D, [decide (x.length ≤ most), decide (y.length ≤ most)], rfl, SqL.of hl, ?_⟩
          have q := r H2 s2
          have ed : decide (¬ badSeal k n x y most) = ([decide (x.length ≤ most), decide (y.length ≤ most)]).all id := by
            rw [Bool.eq_iff_iff]
            simp only [List.all_cons, List.all_nil, id_eq, Bool.and_true, Bool.and_eq_true, decide_eq_true_eq]
            unfold badSeal
            constructor
            · intro h
              refine ⟨?_, ?_⟩
              · exact Decidable.byContradiction fun y => h (.inr (.inr (.inl (by omega))))
              · exact Decidable.byContradiction fun y => h (.inr (.inr (.inr (by omega))))
            · rintro ⟨h1, h2⟩ (y | y | y | y)
              · exact y hk
              · exact y hn
              · omega
              · omega
          rw [← ed]
          exact q
theorem lst_keep {H H1 : Hp} {r p : Addr} {xs : List V} {dr l : Addr} {n : Nat} {o : HO} (k : Keep H H1 [r]) (e : H p = some (.lst xs)) (hr : H r = some (robj C dr l n)) : H1 p = some (.lst xs) := k _ _ e fun z => by
  have e2 := List.mem_singleton.mp z
  rw [e2, hr] at e
  cases e
theorem does_seal (s : Sf83.S) (k n a b : List UInt8) : Sf83.does s (.seals k n a b) = (s, if badSeal k n a b 65536 then Sf83.says (-1) else ⟨b.length + 16, Sf83.nums (Sf83.sealOf k n a b)⟩) := rfl
theorem does_unseal (s : Sf83.S) (k n a b : List UInt8) (ha : a.length ≤ 65536) : Sf83.does s (.unseal_ k n a b) = (s, if badSeal k n a b 65552 then Sf83.says (-1) else match Sf83.opened k n a b with | none => Sf83.says (-3) | some c => ⟨c.length, Sf83.nums c⟩) := by
  have e : Sf83.does s (.unseal_ k n a b) = (s, if k.length ≠ 32 ∨ n.length ≠ 12 ∨ Sf83.LONG < a.length ∨ Sf83.LONG + 16 < b.length then Sf83.says (-1) else match Sf83.opened k n a b with | none => Sf83.says (-3) | some c => ⟨c.length, Sf83.nums c⟩) := by
    unfold Sf83.does
    generalize Sf83.opened = op
    rfl
  rw [e]
  generalize Sf83.opened k n a b = op
  have e1 : Sf83.LONG = 65536 := rfl
  by_cases hb : badSeal k n a b 65552
  · rw [if_pos hb, if_pos]
    rcases hb with z | z | z | z
    · exact .inl z
    · exact .inr (.inl z)
    · omega
    · exact .inr (.inr (.inr (by rw [e1]; exact z)))
  · rw [if_neg hb, if_neg]
    rintro (z | z | z | z)
    · exact hb (.inl z)
    · exact hb (.inr (.inl z))
    · omega
    · exact hb (.inr (.inr (.inr (by rw [e1] at z; exact z))))
abbrev st_answer_seal : Stmt := top 96
theorem sc_answer_seal : FnScope ["end", "reader", "key", "nonce", "along", "data", "hidden"] ["end", "reader"] (defScope st_answer_seal) := ⟨rfl, rfl, rfl, by decide +kernel, rfl, by decide +kernel, by decide +kernel⟩
theorem bd_answer_seal : BindsOf "answer_seal" "answer_seal" st_answer_seal ["end", "reader"] := fun _ _ _ _ _ _ us hl => match us, hl with | [_, _], _ => rfl
theorem ok_aseal {f : Addr} {fd : FuncData} (F : Fun K "answer_seal" "answer_seal" st_answer_seal f fd) (G : Glb mg) (T : Txt K mg C) (F_row : Mt P w K mg base C.R "row" 2 ["self"] (spRow K C)) (F_may_be_sealed : Fn P w K mg base "may_be_sealed" 1 ["key", "nonce", "others", "most"] spMayS) (F_sealed : Fn P w K mg base "sealed" 6 ["key", "nonce", "along", "row"] (spSeal K)) :
    FnOk P w K mg base CX0 7 f fd ["end", "reader"] (spA K C (aRow4 .seals)) := by
  refine F.ok sc_answer_seal spA_len (fun cdv A outer s H vs Q E hr h => ?_)
  · obtain ⟨x, st, LG, L, r, dr, l, n, ns, q, t, rfl, I, hn, ⟨k, u, v, y, hk, ok1, ok2, ok3, ok4, rfl⟩, out⟩ := h
    refine ⟨_, (pss_cons (ps_set (i := 2) sc_answer_seal.nd rfl (Or.inl rfl) (pe_mtX0 (pv 1) T.cR F_row hr (by decide) pass0)) (pss_cons (ps_set (i := 3) sc_answer_seal.nd rfl (Or.inl rfl) (pe_mtX0 (pv 1) T.cR F_row hr (by decide) pass0)) (pss_cons (ps_set (i := 4) sc_answer_seal.nd rfl (Or.inl rfl) (pe_mtX0 (pv 1) T.cR F_row hr (by decide) pass0)) (pss_cons (ps_set (i := 5) sc_answer_seal.nd rfl (Or.inl rfl) (pe_mtX0 (pv 1) T.cR F_row hr (by decide) pass0)) (pss_cons (ps_if (pt_not (pt_truth (pe_fn F_may_be_sealed hr (pa_cons (pv 2) (pa_cons (pv 3) (pa_cons (pe_lst (pa_cons (pv 4) (pa_cons (pv 5) pa_nil))) (pa_cons (pe_gint G.MOST_BYTES) pa_nil))))) (fun _ => rfl))) (pss_one (ps_ret (pe_lst (pa_cons (pe_gint G.UNFIT) pa_nil)))) pss_nil) (pss_cons (ps_set (i := 6) sc_answer_seal.nd rfl (Or.inl rfl) (pe_fn F_sealed hr (pa_cons (pv 2) (pa_cons (pv 3) (pa_cons (pv 4) (pa_cons (pv 5) pa_nil)))))) (pss_one (ps_ret (pe_op op_cat (pe_lst (pa_cons (pe_callB call_len_seq rfl G.len boot_len (pa_cons (pv 6) pa_nil)) pa_nil)) (pv 6)))))))))), ?_⟩
    rw [does_seal] at out
    refine ⟨_, rfl, _, _, _, rfl, I.cl.memb, rf_no (by decide +kernel), r, dr, l, n, ns, k, _, rfl, I.cl.memb, I.sq _ I.cl.tail, hk, fun H1 p1 k1 o1 n1 q1 d1 b1 => ?_⟩
    rw [bs_bv ok1] at q1
    have c1 := (I.cl.row k1 o1 n1 q1).asc
    try dsimp only [L2.start, Z1, Z2, Z3, Z4, Z5, Z6, List.replicate, Z7, Z8, Nat.reduceAdd, Nat.reduceSub, Nat.zero_add]
    refine ⟨_, rfl, _, _, _, rfl, c1.memb, rf_no (by decide +kernel), r, dr, l, _, ns, u, _, rfl, c1.memb, I.sq _ c1.tail, d1, fun H2 p2 k2 o2 n2 q2 d2 b2 => ?_⟩
    rw [bs_bv ok2] at q2
    have c2 := (c1.row k2 o2 n2 q2).asc
    try dsimp only [L2.start, Z1, Z2, Z3, Z4, Z5, Z6, List.replicate, Z7, Z8, Nat.reduceAdd, Nat.reduceSub, Nat.zero_add]
    refine ⟨_, rfl, _, _, _, rfl, c2.memb, rf_no (by decide +kernel), r, dr, l, _, ns, v, _, rfl, c2.memb, I.sq _ c2.tail, d2, fun H3 p3 k3 o3 n3 q3 d3 b3 => ?_⟩
    rw [bs_bv ok3] at q3
    have c3 := (c2.row k3 o3 n3 q3).asc
    try dsimp only [L2.start, Z1, Z2, Z3, Z4, Z5, Z6, List.replicate, Z7, Z8, Nat.reduceAdd, Nat.reduceSub, Nat.zero_add]
    refine ⟨_, rfl, _, _, _, rfl, c3.memb, rf_no (by decide +kernel), r, dr, l, _, ns, y, t, rfl, c3.memb, I.sq _ c3.tail, d3, fun H4 p4 k4 o4 n4 q4 d4 b4 => ?_⟩
    rw [bs_bv ok4] at q4
    have c4 := c3.row k4 o4 n4 q4
    try dsimp only [L2.start, Z1, Z2, Z3, Z4, Z5, Z6, List.replicate, Z7, Z8, Nat.reduceAdd, Nat.reduceSub, Nat.zero_add]
    have f1 : H4 p1 = some (.lst (bv (Sf83Neutral.bs k))) := lst_keep (o := .lst []) k4 (lst_keep (o := .lst []) k3 (lst_keep (o := .lst []) k2 q1 o1) o2) o3
    have f2 : H4 p2 = some (.lst (bv (Sf83Neutral.bs u))) := lst_keep (o := .lst []) k4 (lst_keep (o := .lst []) k3 q2 o2) o3
    have f3 : H4 p3 = some (.lst (bv (Sf83Neutral.bs v))) := lst_keep (o := .lst []) k4 q3 o3
    have f4 := q4
    have c0 : Cells H4 ((eCells C x st ++ LG) ++ (r, robj C dr l (n + 1 + k.length + 1 + u.length + 1 + v.length + 1 + y.length)) :: L) := c4.sub (List.Sublist.append ((List.sublist_append_left _ _).trans ((List.sublist_append_left _ _).trans (List.sublist_append_left _ _))) (List.sublist_cons_self _ _))
    refine ⟨_, rfl, _, rfl, _, rfl, _, rfl, two_le, fun p5 n5 => ?_⟩
    have u5 := (Same.refl _).upd (o := .lst [V.ref p3, V.ref p4]) n5
    refine ⟨p1, p2, p5, p3, p4, _, _, _, _, 65536, rfl, u5 _ _ f1, u5 _ _ f2, upd_same, u5 _ _ f3, u5 _ _ f4, fun H6 s6 => ⟨_, rfl, ?_⟩⟩
    have t6 := u5.trans s6
    by_cases hb : badSeal (Sf83Neutral.bs k) (Sf83Neutral.bs u) (Sf83Neutral.bs v) (Sf83Neutral.bs y) 65536
    · rw [decide_eq_false (fun y => y hb)]
      rw [if_pos hb] at out
      exact iteT ⟨one_le, fun p hp => out _ x LG p _ rfl I.gr (by omega) b4 d4 (Cells.midU (c0.same t6) _ hp)⟩
    · rw [decide_eq_true hb]
      rw [if_neg hb] at out
      have z1 : (Sf83Neutral.bs k).length = 32 := Decidable.byContradiction fun y => hb (.inl y)
      have z2 : (Sf83Neutral.bs u).length = 12 := Decidable.byContradiction fun y => hb (.inr (.inl y))
      have z3 : (Sf83Neutral.bs v).length ≤ 65536 := Nat.le_of_not_lt fun y => hb (.inr (.inr (.inl y)))
      have z4 : (Sf83Neutral.bs y).length ≤ 65536 := Nat.le_of_not_lt fun z => hb (.inr (.inr (.inr z)))
      refine iteF ⟨_, rfl, _, rfl, _, rfl, _, rfl, p1, p2, p3, p4, _, _, _, _, rfl, SqL.of (t6 _ _ f1), SqL.of (t6 _ _ f2), t6 _ _ f3, SqL.of (t6 _ _ f4), z1, z2, by omega, by omega, fun H7 p7 s7 n7 e7 => ?_⟩
      have ls := M.sealOf_len (Sf83Neutral.bs k) (Sf83Neutral.bs u) (Sf83Neutral.bs v) (Sf83Neutral.bs y)
      generalize Sf83.sealOf (Sf83Neutral.bs k) (Sf83Neutral.bs u) (Sf83Neutral.bs v) (Sf83Neutral.bs y) = sd at *
      try dsimp only [L2.start, Z1, Z2, Z3, Z4, Z5, Z6, List.replicate, Z7, Z8, Nat.reduceAdd, Nat.reduceSub, Nat.zero_add]
      refine ⟨_, rfl, p7, _, rfl, .inl (SqL.of e7), one_le, fun p8 n8 => ?_⟩
      have u8 := (Same.refl _).upd (o := .lst [V.int ((bv sd).length : Nat)]) n8
      refine ⟨_, rfl, p8, p7, _, _, rfl, rfl, upd_same, u8 _ _ e7, by rw [bv_len, ls, sizeLine_eq]; show 1 + _ ≤ _; omega, fun p9 n9 => ?_⟩
      refine out _ x LG p9 _ rfl I.gr (by omega) b4 d4 ?_
      have ea : [V.int ((bv sd).length : Nat)] ++ bv sd = av (Sf83Neutral.listOf ⟨((Sf83Neutral.bs y).length : Int) + 16, Sf83.nums sd⟩) := by
        rw [bv_len, ls, ← av_nums, show (((Sf83Neutral.bs y).length + 16 : Nat) : Int) = ((Sf83Neutral.bs y).length : Int) + 16 by omega]
        rfl
      rw [ea]
      exact Cells.midU (((c0.same t6).same s7).same u8) _ n9
abbrev st_answer_unseal : Stmt := top 97
theorem sc_answer_unseal : FnScope ["end", "reader", "key", "nonce", "along", "hidden", "data"] ["end", "reader"] (defScope st_answer_unseal) := ⟨rfl, rfl, rfl, by decide +kernel, rfl, by decide +kernel, by decide +kernel⟩
theorem bd_answer_unseal : BindsOf "answer_unseal" "answer_unseal" st_answer_unseal ["end", "reader"] := fun _ _ _ _ _ _ us hl => match us, hl with | [_, _], _ => rfl
theorem ok_aunseal {f : Addr} {fd : FuncData} (F : Fun K "answer_unseal" "answer_unseal" st_answer_unseal f fd) (G : Glb mg) (T : Txt K mg C) (F_row : Mt P w K mg base C.R "row" 2 ["self"] (spRow K C)) (F_may_be_sealed : Fn P w K mg base "may_be_sealed" 1 ["key", "nonce", "others", "most"] spMayS) (F_opened : Fn P w K mg base "opened" 6 ["key", "nonce", "along", "row"] (spOpen K)) :
    FnOk P w K mg base CX0 7 f fd ["end", "reader"] (spA K C (aRow4 .unseal_)) := by
  refine F.ok sc_answer_unseal spA_len (fun cdv A outer s H vs Q E hr h => ?_)
  · obtain ⟨x, st, LG, L, r, dr, l, n, ns, q, t, rfl, I, hn, ⟨k, u, v, y, hk, ok1, ok2, ok3, ok4, rfl⟩, out⟩ := h
    refine ⟨_, (pss_cons (ps_set (i := 2) sc_answer_unseal.nd rfl (Or.inl rfl) (pe_mtX0 (pv 1) T.cR F_row hr (by decide) pass0)) (pss_cons (ps_set (i := 3) sc_answer_unseal.nd rfl (Or.inl rfl) (pe_mtX0 (pv 1) T.cR F_row hr (by decide) pass0)) (pss_cons (ps_set (i := 4) sc_answer_unseal.nd rfl (Or.inl rfl) (pe_mtX0 (pv 1) T.cR F_row hr (by decide) pass0)) (pss_cons (ps_set (i := 5) sc_answer_unseal.nd rfl (Or.inl rfl) (pe_mtX0 (pv 1) T.cR F_row hr (by decide) pass0)) (pss_cons (ps_if (pt_not (pt_truth (pe_fn F_may_be_sealed hr (pa_cons (pv 2) (pa_cons (pv 3) (pa_cons (pe_lst (pa_cons (pv 4) (pa_cons (pv 5) pa_nil))) (pa_cons (pe_gint G.MOST_SEALED) pa_nil))))) (fun _ => rfl))) (pss_one (ps_ret (pe_lst (pa_cons (pe_gint G.UNFIT) pa_nil)))) pss_nil) (pss_cons (ps_set (i := 6) sc_answer_unseal.nd rfl (Or.inl rfl) (pe_fn F_opened hr (pa_cons (pv 2) (pa_cons (pv 3) (pa_cons (pv 4) (pa_cons (pv 5) pa_nil)))))) (pss_cons (ps_if (pt_cmpR op_isN (pv 6) pe_non (nomark _)) (pss_one (ps_ret (pe_lst (pa_cons (pe_gint G.IS_BROKEN) pa_nil)))) pss_nil) (pss_one (ps_ret (pe_op op_cat (pe_lst (pa_cons (pe_callB call_len_seq rfl G.len boot_len (pa_cons (pv 6) pa_nil)) pa_nil)) (pv 6))))))))))), ?_⟩
    refine ⟨_, rfl, _, _, _, rfl, I.cl.memb, rf_no (by decide +kernel), r, dr, l, n, ns, k, _, rfl, I.cl.memb, I.sq _ I.cl.tail, hk, fun H1 p1 k1 o1 n1 q1 d1 b1 => ?_⟩
    rw [bs_bv ok1] at q1
    have c1 := (I.cl.row k1 o1 n1 q1).asc
    try dsimp only [L2.start, Z1, Z2, Z3, Z4, Z5, Z6, List.replicate, Z7, Z8, Nat.reduceAdd, Nat.reduceSub, Nat.zero_add]
    refine ⟨_, rfl, _, _, _, rfl, c1.memb, rf_no (by decide +kernel), r, dr, l, _, ns, u, _, rfl, c1.memb, I.sq _ c1.tail, d1, fun H2 p2 k2 o2 n2 q2 d2 b2 => ?_⟩
    rw [bs_bv ok2] at q2
    have c2 := (c1.row k2 o2 n2 q2).asc
    try dsimp only [L2.start, Z1, Z2, Z3, Z4, Z5, Z6, List.replicate, Z7, Z8, Nat.reduceAdd, Nat.reduceSub, Nat.zero_add]
    refine ⟨_, rfl, _, _, _, rfl, c2.memb, rf_no (by decide +kernel), r, dr, l, _, ns, v, _, rfl, c2.memb, I.sq _ c2.tail, d2, fun H3 p3 k3 o3 n3 q3 d3 b3 => ?_⟩
    rw [bs_bv ok3] at q3
    have c3 := (c2.row k3 o3 n3 q3).asc
    try dsimp only [L2.start, Z1, Z2, Z3, Z4, Z5, Z6, List.replicate, Z7, Z8, Nat.reduceAdd, Nat.reduceSub, Nat.zero_add]
    refine ⟨_, rfl, _, _, _, rfl, c3.memb, rf_no (by decide +kernel), r, dr, l, _, ns, y, t, rfl, c3.memb, I.sq _ c3.tail, d3, fun H4 p4 k4 o4 n4 q4 d4 b4 => ?_⟩
    rw [bs_bv ok4] at q4
    have c4 := c3.row k4 o4 n4 q4
    try dsimp only [L2.start, Z1, Z2, Z3, Z4, Z5, Z6, List.replicate, Z7, Z8, Nat.reduceAdd, Nat.reduceSub, Nat.zero_add]
    have f1 : H4 p1 = some (.lst (bv (Sf83Neutral.bs k))) := lst_keep (o := .lst []) k4 (lst_keep (o := .lst []) k3 (lst_keep (o := .lst []) k2 q1 o1) o2) o3
    have f2 : H4 p2 = some (.lst (bv (Sf83Neutral.bs u))) := lst_keep (o := .lst []) k4 (lst_keep (o := .lst []) k3 q2 o2) o3
    have f3 : H4 p3 = some (.lst (bv (Sf83Neutral.bs v))) := lst_keep (o := .lst []) k4 q3 o3
    have f4 := q4
    have c0 : Cells H4 ((eCells C x st ++ LG) ++ (r, robj C dr l (n + 1 + k.length + 1 + u.length + 1 + v.length + 1 + y.length)) :: L) := c4.sub (List.Sublist.append ((List.sublist_append_left _ _).trans ((List.sublist_append_left _ _).trans (List.sublist_append_left _ _))) (List.sublist_cons_self _ _))
    refine ⟨_, rfl, _, rfl, _, rfl, _, rfl, two_le, fun p5 n5 => ?_⟩
    have u5 := (Same.refl _).upd (o := .lst [V.ref p3, V.ref p4]) n5
    have nl := I.nl
    rw [does_unseal _ _ _ _ _ (by rw [bs_len]; omega)] at out
    refine ⟨p1, p2, p5, p3, p4, _, _, _, _, 65552, rfl, u5 _ _ f1, u5 _ _ f2, upd_same, u5 _ _ f3, u5 _ _ f4, fun H6 s6 => ⟨_, rfl, ?_⟩⟩
    have t6 := u5.trans s6
    by_cases hb : badSeal (Sf83Neutral.bs k) (Sf83Neutral.bs u) (Sf83Neutral.bs v) (Sf83Neutral.bs y) 65552
    · rw [decide_eq_false (fun y => y hb)]
      rw [if_pos hb] at out
      exact iteT ⟨one_le, fun p hp => out _ x LG p _ rfl I.gr (by omega) b4 d4 (Cells.midU (c0.same t6) _ hp)⟩
    · rw [decide_eq_true hb]
      rw [if_neg hb] at out
      have z1 : (Sf83Neutral.bs k).length = 32 := Decidable.byContradiction fun y => hb (.inl y)
      have z2 : (Sf83Neutral.bs u).length = 12 := Decidable.byContradiction fun y => hb (.inr (.inl y))
      have z3 : (Sf83Neutral.bs v).length ≤ 65552 := Nat.le_of_not_lt fun y => hb (.inr (.inr (.inl y)))
      have z4 : (Sf83Neutral.bs y).length ≤ 65552 := Nat.le_of_not_lt fun z => hb (.inr (.inr (.inr z)))
      have ol : ∀ z, Sf83.opened (Sf83Neutral.bs k) (Sf83Neutral.bs u) (Sf83Neutral.bs v) (Sf83Neutral.bs y) = some z → z.length + 16 = (Sf83Neutral.bs y).length := fun z => opened_len
      refine iteF ⟨_, rfl, _, rfl, _, rfl, _, rfl, p1, p2, p3, p4, _, _, _, _, rfl, SqL.of (t6 _ _ f1), SqL.of (t6 _ _ f2), t6 _ _ f3, SqL.of (t6 _ _ f4), z1, z2, by omega, by omega, fun ho H7 s7 => ?_, fun sd ho H7 p7 s7 n7 e7 => ?_⟩
      · rw [ho] at out
        try dsimp only [L2.start, Z1, Z2, Z3, Z4, Z5, Z6, List.replicate, Z7, Z8, Nat.reduceAdd, Nat.reduceSub, Nat.zero_add]
        refine ⟨_, rfl, rfl, _, rfl, ifD (fun _ => ?_) fun z => absurd rfl z⟩
        exact ⟨one_le, fun p hp => out _ x LG p _ rfl I.gr (by omega) b4 d4 (Cells.midU ((c0.same t6).same s7) _ hp)⟩
      · have ls := ol sd ho
        rw [ho] at out
        try dsimp only [L2.start, Z1, Z2, Z3, Z4, Z5, Z6, List.replicate, Z7, Z8, Nat.reduceAdd, Nat.reduceSub, Nat.zero_add]
        refine ⟨_, rfl, rfl, _, rfl, ifD (fun z => nomatch z) fun _ => ?_⟩
        refine ⟨_, rfl, p7, _, rfl, .inl (SqL.of e7), one_le, fun p8 n8 => ?_⟩
        have u8 := (Same.refl _).upd (o := .lst [V.int ((bv sd).length : Nat)]) n8
        refine ⟨_, rfl, p8, p7, _, _, rfl, rfl, upd_same, u8 _ _ e7, by rw [bv_len, sizeLine_eq]; show 1 + _ ≤ _; omega, fun p9 n9 => ?_⟩
        refine out _ x LG p9 _ rfl I.gr (by omega) b4 d4 ?_
        have ea : [V.int ((bv sd).length : Nat)] ++ bv sd = av (Sf83Neutral.listOf ⟨(sd.length : Int), Sf83.nums sd⟩) := by
          rw [bv_len, ← av_nums]
          rfl
        rw [ea]
        exact Cells.midU (((c0.same t6).same s7).same u8) _ n9
end
theorem meet_cases (first : Bool) (mine theirs fl pm pf chain msg : List UInt8) : MeetNo first mine theirs fl pm pf chain msg ∨ ∃ c' add, MeetOk first mine theirs fl pm pf chain msg c' add := by
  unfold MeetNo MeetOk
  generalize Sf83.dhs = DH
  generalize Sf83.proof = PR
  generalize Sf83.mixed = MX
  cases first with
  | true =>
    cases h : DH ([msg.take 32].foldl MX chain) [(fl, msg.take 32), (mine, msg.take 32)] with
    | none => exact .inl (.inl ⟨rfl, .inl rfl⟩)
    | some c' =>
      by_cases hp : PR c' = msg.drop 32
      · exact .inr ⟨c', [], .inl ⟨rfl, rfl, hp, rfl⟩⟩
      · exact .inl (.inl ⟨rfl, .inr ⟨c', rfl, hp⟩⟩)
  | false =>
    cases h : DH ([theirs, pm, msg.take 32].foldl MX chain) [(mine, msg.take 32), (mine, theirs)] with
    | none => exact .inl (.inr ⟨rfl, .inl rfl⟩)
    | some c1 =>
      by_cases hp : PR c1 = msg.drop 32
      · cases h2 : DH ([pf].foldl MX c1) [(fl, msg.take 32), (fl, theirs)] with
        | none => exact .inl (.inr ⟨rfl, .inr ⟨c1, rfl, .inr ⟨hp, h2⟩⟩⟩)
        | some c' => exact .inr ⟨c', _, .inr ⟨rfl, c1, rfl, hp, h2, rfl⟩⟩
      · exact .inl (.inr ⟨rfl, .inr ⟨c1, rfl, .inl hp⟩⟩)
theorem fit_broken {s : Sf83.S} (h : s.phase = .broken) : Fit s := by
  refine ⟨fun z => ?_, fun z => ?_, fun z => ?_, fun z => ?_, fun z => ?_⟩ <;> (rw [h] at z; cases z)
theorem fit_sealed {s : Sf83.S} (h : s.phase = .sealed) (k : s.sendKey.length = 32 ∧ s.takeKey.length = 32) : Fit s := by
  refine ⟨fun _ => k, fun z => ?_, fun z => ?_, fun z => ?_, fun z => ?_⟩ <;> (rw [h] at z; cases z)
theorem ready_keys (s : Sf83.S) (c : List UInt8) : (s.ready c).sendKey.length = 32 ∧ (s.ready c).takeKey.length = 32 := by
  have b1 := branch_len c 1
  have b2 := branch_len c 2
  unfold Sf83.S.ready
  generalize Sf83.branch c 1 = q1 at *
  generalize Sf83.branch c 2 = q2 at *
  dsimp only
  split
  · exact ⟨b1, b2⟩
  · exact ⟨b2, b1⟩
structure Kept (s s' : Sf83.S) (add : Nat) : Prop where
  ft : Fit s'
  ob : s'.out.length ≤ s.out.length + add
  pb : s'.plain.length + s'.kept.length ≤ s.plain.length + s.kept.length
theorem kept_break (s : Sf83.S) (n : Nat) : Kept s s.break_ n := ⟨fit_broken rfl, Nat.le_add_right _ _, by show s.plain.length + 0 ≤ _; omega⟩
theorem kept_self {s : Sf83.S} (h : Fit s) (n : Nat) : Kept s s n := ⟨h, Nat.le_add_right _ _, Nat.le_refl _⟩
theorem taken_out (s : Sf83.S) (n k : Nat) (d : List UInt8) : (taken s n k d).out = s.out := by
  unfold taken received
  split
  · rfl
  · split <;> rfl
theorem kept_sealed : ∀ (f : Nat) (s : Sf83.S), s.phase = .sealed → Fit s → Kept s (Sf83.S.go f s) 0
  | 0, s, _, h => kept_self h 0
  | f + 1, s, hp, h => by
    by_cases h2 : s.kept.length < 2
    · rw [go_short hp h2]; exact kept_self h 0
    · have h2 : 2 ≤ s.kept.length := by omega
      by_cases hb : s.ended = true ∨ recLen s.kept < 17 ∨ 16401 < recLen s.kept
      · rw [go_bad hp h2 hb]; exact kept_break s 0
      · have e1 : s.ended = false := by
          cases he : s.ended with
          | true => exact absurd (.inl he) hb
          | false => rfl
        have l1 : 17 ≤ recLen s.kept := Nat.le_of_not_lt fun y => hb (.inr (.inl y))
        have l2 : recLen s.kept ≤ 16401 := Nat.le_of_not_lt fun y => hb (.inr (.inr y))
        by_cases hw : s.kept.length < 2 + recLen s.kept
        · rw [go_wait hp h2 e1 l1 l2 hw]; exact kept_self h 0
        · have hw : 2 + recLen s.kept ≤ s.kept.length := by omega
          have no := go_none (f := f) hp h2 e1 l1 l2 hw
          have unf := fun k d => go_unfit (f := f) hp h2 e1 l1 l2 hw (k := k) (d := d)
          have fit := fun k d => go_rec (f := f) hp h2 e1 l1 l2 hw (k := k) (d := d)
          have ol : ∀ y, Sf83.opened s.takeKey (Sf83.nonce s.takeCount) (s.kept.take 2) ((s.kept.drop 2).take (recLen s.kept)) = some y → y.length + 16 = recLen s.kept := fun y h => (opened_len h).trans (by rw [List.length_take, List.length_drop]; omega)
          generalize Sf83.opened s.takeKey (Sf83.nonce s.takeCount) (s.kept.take 2) ((s.kept.drop 2).take (recLen s.kept)) = op at *
          cases op with
          | none => rw [no rfl]; exact kept_break s 0
          | some y =>
            have ly := ol y rfl
            cases y with
            | nil => exact absurd ly (by show ¬ 0 + 16 = _; omega)
            | cons k d =>
              have ly : d.length + 1 + 16 = recLen s.kept := ly
              by_cases hg : Good k.toNat d
              · rw [fit k d rfl hg]
                have hp' : (taken s (recLen s.kept) k.toNat d).phase = .sealed := (taken_phase _ _ _ _).trans hp
                have ih := kept_sealed f (taken s (recLen s.kept) k.toNat d) hp' (fit_sealed hp' ⟨by rw [taken_send]; exact (h.keys hp).1, by rw [taken_take]; exact wayKey_len (h.keys hp).2⟩)
                have o1 := ih.ob
                have o2 := ih.pb
                rw [taken_out] at o1
                rw [taken_kept, List.length_drop, List.length_drop] at o2
                have o3 := taken_plain s (recLen s.kept) k.toNat d
                exact ⟨ih.ft, o1, by omega⟩
              · rw [unf k d rfl hg]; exact kept_break s 0
theorem kept_go (f : Nat) (s : Sf83.S) (hp : s.phase = .waits ∨ s.phase = .sealed) (h : Fit s) : Kept s (Sf83.S.go f s) 48 := by
  rcases hp with hp | hp
  · cases f with
    | zero => exact kept_self h 48
    | succ f =>
      by_cases hl : s.kept.length < 48
      · rw [go_waits_short hp hl]; exact kept_self h 48
      · rcases meet_cases s.first s.mine s.theirs s.fleeting (Sf83.publicOf s.mine) (Sf83.publicOf s.fleeting) (gChain s) (s.kept.take 48) with no | ⟨c', add, ok⟩
        · rw [go_meet_no hp h hl no]; exact kept_break s 48
        · rw [go_meet_ok hp h hl ok]
          have la : add.length ≤ 48 := by
            rcases ok with ⟨_, _, _, e⟩ | ⟨_, c1, _, _, _, e⟩
            · rw [e]; exact Nat.zero_le _
            · rw [e, List.length_append, proof_len]
              have : (Sf83.publicOf s.fleeting).length = 32 := M.point_len _ _
              omega
          have ih := kept_sealed f (({ s with kept := s.kept.drop 48, out := s.out ++ add } : Sf83.S).ready c') rfl (fit_sealed rfl (ready_keys _ c'))
          have o1 := ih.ob
          have o2 := ih.pb
          have e1 : (({ s with kept := s.kept.drop 48, out := s.out ++ add } : Sf83.S).ready c').out = s.out ++ add := rfl
          have e2 : (({ s with kept := s.kept.drop 48, out := s.out ++ add } : Sf83.S).ready c').plain = s.plain := rfl
          have e3 : (({ s with kept := s.kept.drop 48, out := s.out ++ add } : Sf83.S).ready c').kept = s.kept.drop 48 := rfl
          rw [e1, List.length_append] at o1
          rw [e2, e3, List.length_drop] at o2
          exact ⟨ih.ft, by omega, by omega⟩
  · have k := kept_sealed f s hp h
    exact ⟨k.ft, Nat.le_trans k.ob (by omega), k.pb⟩
theorem record_take (s : Sf83.S) (k : Nat) (b : List UInt8) : (s.record k b).takeKey = s.takeKey ∧ (s.record k b).plain = s.plain ∧ (s.record k b).kept = s.kept := by
  rw [record_eq]
  exact ⟨rfl, rfl, rfl⟩
theorem due_take (s : Sf83.S) : s.due.takeKey = s.takeKey ∧ s.due.plain = s.plain ∧ s.due.kept = s.kept := by
  unfold Sf83.S.due
  split
  · exact record_take _ _ _
  · exact ⟨rfl, rfl, rfl⟩
theorem write_bound : ∀ (f : Nat) (s : Sf83.S) (b : List UInt8), s.sendKey.length = 32 → (Sf83.S.write f s b).out.length ≤ s.out.length + 57 * b.length ∧ (Sf83.S.write f s b).sendKey.length = 32 ∧ (Sf83.S.write f s b).takeKey = s.takeKey ∧ (Sf83.S.write f s b).plain = s.plain ∧ (Sf83.S.write f s b).kept = s.kept
  | 0, s, b, h => ⟨Nat.le_add_right _ _, h, rfl, rfl, rfl⟩
  | f + 1, s, b, h => by
    rw [write_step]
    by_cases hb : b = []
    · rw [if_pos hb]
      exact ⟨Nat.le_add_right _ _, h, rfl, rfl, rfl⟩
    · rw [if_neg hb]
      obtain ⟨i1, i2, i3, i4, i5⟩ := write_bound f (s.due.record 0 (b.take 16384)) (b.drop 16384) (record_key _ _ _ (due_key s h))
      obtain ⟨r1, r2, r3⟩ := record_take s.due 0 (b.take 16384)
      obtain ⟨d1, d2, d3⟩ := due_take s
      refine ⟨?_, i2, i3.trans (r1.trans d1), i4.trans (r2.trans d2), i5.trans (r3.trans d3)⟩
      have hl : 0 < b.length := List.length_pos_iff.mpr hb
      have ho := due_out s
      rw [record_out, List.length_take] at i1
      rw [List.length_drop] at i1
      omega
structure Bd (s : Sf83.S) (n : Nat) : Prop where
  ft : Fit s
  ob : s.out.length ≤ 4500000 + 100 * n
  pb : s.plain.length + s.kept.length ≤ n
theorem Bd.mono {s : Sf83.S} {n m : Nat} (b : Bd s n) (h : n ≤ m) : Bd s m := ⟨b.ft, by have := b.ob; omega, by have := b.pb; omega⟩
def callLen : Sf83.Call → Nat
  | .came b => b.length
  | _ => 0
theorem bd_open {s : Sf83.S} {n m : Nat} (b : Bd s n) (h : n + 1 ≤ m) (i e : Int) (k t f : List UInt8) : Bd (Sf83.does s (.open_ i e k t f)).1 m := by
  by_cases hb : badOpen i e k t f
  · rw [does_open_bad hb]
    exact b.mono (by omega)
  · have lk : k.length = 32 := Decidable.byContradiction fun y => hb (.inr (.inr (.inl y)))
    have lt : t.length = 32 := Decidable.byContradiction fun y => hb (.inr (.inr (.inr (.inl y))))
    have lf : f.length = 32 := Decidable.byContradiction fun y => hb (.inr (.inr (.inr (.inr y))))
    have hi01 : i = 0 ∨ i = 1 := by
      have z : Sf83.within i 0 1 = true := by
        cases h : Sf83.within i 0 1 with
        | true => rfl
        | false => exact absurd (.inl h) hb
      unfold Sf83.within at z
      rw [Bool.and_eq_true, decide_eq_true_eq, decide_eq_true_eq] at z
      omega
    rcases hi01 with hi | hi
    · subst hi
      rw [does_open_two hb rfl]
      have hc : ({ opn 0 e k t f with chain := Sf83.chainOf t (Sf83.publicOf k) } : Sf83.S).chain = Sf83.chainOf ({ opn 0 e k t f with chain := Sf83.chainOf t (Sf83.publicOf k) } : Sf83.S).theirs (Sf83.publicOf ({ opn 0 e k t f with chain := Sf83.chainOf t (Sf83.publicOf k) } : Sf83.S).mine) := by
        unfold opn
        dsimp only
      refine ⟨⟨fun z => (by cases z), fun _ => ⟨rfl, rfl, rfl, rfl⟩, fun _ => ⟨lk, lt, lf⟩, fun _ z => ?_, fun _ _ => hc⟩, Nat.zero_le _, Nat.zero_le _⟩
      exact absurd z (by show ¬ ((0 : Int) == 1) = true; decide)
    · subst hi
      have hn := @does_open_none s 1 e k t f hb (by decide)
      have hs := @does_open_some s 1 e k t f
      have hl := dhs_len [(f, t), (k, t)] ([Sf83.publicOf k, t, Sf83.publicOf f].foldl Sf83.mixed Sf83.BEGIN)
      have hl0 := fold_mixed_len [Sf83.publicOf k, t, Sf83.publicOf f] Sf83.BEGIN rfl
      have lpf : (Sf83.publicOf f).length = 32 := M.point_len _ _
      generalize Sf83.dhs ([Sf83.publicOf k, t, Sf83.publicOf f].foldl Sf83.mixed Sf83.BEGIN) [(f, t), (k, t)] = r at *
      cases r with
      | none =>
        rw [hn rfl]
        exact ⟨fit_broken rfl, Nat.zero_le _, Nat.zero_le _⟩
      | some c =>
        rw [hs (c := c) hb (by decide) rfl]
        have lp := proof_len c
        generalize Sf83.proof c = pr at *
        generalize Sf83.publicOf f = pf at *
        refine ⟨⟨fun z => (by cases z), fun _ => ⟨rfl, rfl, rfl, rfl⟩, fun _ => ⟨lk, lt, lf⟩, fun _ _ => hl c hl0 rfl, fun _ z => ?_⟩, ?_, Nat.zero_le _⟩
        · exact absurd z (by show ¬ ((1 : Int) == 1) = false; decide)
        · show (pf ++ pr).length ≤ _
          rw [List.length_append]
          omega
theorem bd_came {s : Sf83.S} {n m : Nat} (b : Bd s n) (d : List UInt8) (h : n + 1 + d.length ≤ m) : Bd (Sf83.does s (.came d)).1 m := by
  rw [does_came]
  have b' : Bd s m := b.mono (by omega)
  split
  · exact b'
  · split
    · exact b'
    · rename_i h1 h2
      split
      · exact b'
      · have hz : refH s = 0 := Decidable.byContradiction fun y => h2 y
        have FT1 : Fit { s with kept := s.kept ++ d } := ⟨b.ft.keys, b.ft.zero, b.ft.lens, b.ft.chn1, b.ft.chn2⟩
        have k := kept_go (s.kept.length + d.length + 2) { s with kept := s.kept ++ d } (refH_zero hz) FT1
        have o1 := k.ob
        have o2 := k.pb
        have e1 : ({ s with kept := s.kept ++ d } : Sf83.S).kept.length = s.kept.length + d.length := List.length_append
        have e2 : ({ s with kept := s.kept ++ d } : Sf83.S).plain.length = s.plain.length := rfl
        have e3 : ({ s with kept := s.kept ++ d } : Sf83.S).out.length = s.out.length := rfl
        rw [e3] at o1
        rw [e1, e2] at o2
        have := b.ob
        have := b.pb
        exact ⟨k.ft, by show (Sf83.S.go _ _).out.length ≤ _; omega, by show (Sf83.S.go _ _).plain.length + (Sf83.S.go _ _).kept.length ≤ _; omega⟩
theorem bd_does {s : Sf83.S} {n m : Nat} (b : Bd s n) (q : Sf83.Call) (h : n + 1 + callLen q ≤ m) : Bd (Sf83.does s q).1 m := by
  have b' : Bd s m := b.mono (by omega)
  have ob := b.ob
  have pb := b.pb
  cases q with
  | open_ i e k t f => exact bd_open b (by have : callLen (.open_ i e k t f) = 0 := rfl; omega) i e k t f
  | public_ k => exact b'
  | shared k u => exact b'
  | came d => exact bd_came b d h
  | cut => exact b'
  | state => exact b'
  | seals k n a d => exact b'
  | unseal_ k n a d => exact b'
  | write d =>
    rw [does_write]
    split
    · exact b'
    · split
      · exact b'
      · rename_i h1 h2
        have hz : refA s = 0 := Decidable.byContradiction fun y => h2 y
        obtain ⟨hs, lo⟩ := refA_zero hz
        have hp := refS_seal hs
        obtain ⟨i1, i2, i3, i4, i5⟩ := write_bound (d.length + 1) s d (b.ft.keys hp).1
        have sg := sameG_write (d.length + 1) s d
        refine ⟨fit_sealed (sg.ph.trans hp) ⟨i2, by show (Sf83.S.write _ s d).takeKey.length = 32; rw [i3]; exact (b.ft.keys hp).2⟩, ?_, ?_⟩
        · show (Sf83.S.write _ s d).out.length ≤ _
          omega
        · show (Sf83.S.write _ s d).plain.length + (Sf83.S.write _ s d).kept.length ≤ _
          rw [i4, i5]
          omega
  | renew =>
    rw [does_renew]
    split
    · exact b'
    · rename_i h2
      have hz : refA s = 0 := Decidable.byContradiction fun y => h2 y
      have hp := refS_seal (refA_zero hz).1
      obtain ⟨r1, r2, r3⟩ := record_take s 1 []
      have sg := sameG_record s 1 []
      refine ⟨fit_sealed (sg.ph.trans hp) ⟨record_key _ _ _ (b.ft.keys hp).1, by show (s.record 1 []).takeKey.length = 32; rw [r1]; exact (b.ft.keys hp).2⟩, ?_, ?_⟩
      · show (s.record 1 []).out.length ≤ _
        rw [record_out]
        show _ + (0 + 19) ≤ _
        omega
      · show (s.record 1 []).plain.length + (s.record 1 []).kept.length ≤ _
        rw [r2, r3]
        omega
  | end_ =>
    rw [does_end]
    split
    · exact b'
    · rename_i h2
      have hz : refS s = 0 := Decidable.byContradiction fun y => h2 y
      have hp := refS_seal hz
      obtain ⟨r1, r2, r3⟩ := record_take s.due 2 []
      obtain ⟨d1, d2, d3⟩ := due_take s
      have sg := (sameG_due s).trans (sameG_record s.due 2 [])
      have k1 := record_key s.due 2 [] (due_key s (b.ft.keys hp).1)
      have o1 := record_out s.due 2 []
      have o2 := due_out s
      refine ⟨fit_sealed (sg.ph.trans hp) ⟨k1, by show (s.due.record 2 []).takeKey.length = 32; rw [r1, d1]; exact (b.ft.keys hp).2⟩, ?_, ?_⟩
      · show (s.due.record 2 []).out.length ≤ _
        rw [o1]
        show _ + (0 + 19) ≤ _
        omega
      · show (s.due.record 2 []).plain.length + (s.due.record 2 []).kept.length ≤ _
        rw [r2, r3, d2, d3]
        omega
  | take z =>
    unfold Sf83.does
    dsimp only
    split
    · exact b'
    · refine ⟨⟨b.ft.keys, b.ft.zero, b.ft.lens, b.ft.chn1, b.ft.chn2⟩, ?_, ?_⟩
      · show (s.out.drop z.toNat).length ≤ _
        rw [List.length_drop]
        omega
      · show s.plain.length + s.kept.length ≤ _
        omega
  | read z =>
    unfold Sf83.does
    dsimp only
    split
    · exact b'
    · refine ⟨⟨b.ft.keys, b.ft.zero, b.ft.lens, b.ft.chn1, b.ft.chn2⟩, ?_, ?_⟩
      · show s.out.length ≤ _
        omega
      · show (s.plain.drop z.toNat).length + s.kept.length ≤ _
        rw [List.length_drop]
        omega
theorem bd_shut (n : Nat) : Bd Sf83.shut n := ⟨⟨fun z => (by cases z), fun z => (by cases z), fun z => (by cases z), fun z => (by cases z), fun z => (by cases z)⟩, Nat.zero_le _, Nat.zero_le _⟩
inductive Tbl : Int → (List Int → Sf83.Call → List Int → Prop) → Prop
  | c1 : Tbl 1 aOpen
  | c2 : Tbl 2 (aRow .public_)
  | c3 : Tbl 3 (aRow2 .shared)
  | c4 : Tbl 4 (aRow .write)
  | c5 : Tbl 5 (aNone .renew)
  | c6 : Tbl 6 (aNone .end_)
  | c7 : Tbl 7 (aInt .take)
  | c8 : Tbl 8 (aRow .came)
  | c9 : Tbl 9 (aInt .read)
  | c10 : Tbl 10 (aNone .cut)
  | c11 : Tbl 11 (aNone .state)
  | c12 : Tbl 12 (aRow4 .seals)
  | c13 : Tbl 13 (aRow4 .unseal_)
theorem row_some {r k t : List Int} (h : PyFlat.row r = some (k, t)) : r = (k.length : Int) :: (k ++ t) := by
  cases r with
  | nil => cases h
  | cons n r =>
    unfold PyFlat.row at h
    dsimp only at h
    by_cases hc : 0 ≤ n ∧ n.toNat ≤ r.length
    · rw [if_pos hc] at h
      have h := Option.some.inj h
      have h1 : r.take n.toNat = k := congrArg Prod.fst h
      have h2 : r.drop n.toNat = t := congrArg Prod.snd h
      rw [← h1, ← h2, List.take_append_drop, List.length_take, show ((min n.toNat r.length : Nat) : Int) = n by omega]
    · rw [if_neg hc] at h
      cases h
theorem rows0 {r t : List Int} {xs : List (List Int)} (h : PyFlat.rows 0 r = some (xs, t)) : xs = [] ∧ r = t := by
  have h := Option.some.inj h
  exact ⟨(congrArg Prod.fst h).symm, congrArg Prod.snd h⟩
theorem rowsS {r t : List Int} {k : Nat} {xs : List (List Int)} (h : PyFlat.rows (k + 1) r = some (xs, t)) : ∃ x ys s, xs = x :: ys ∧ r = (x.length : Int) :: (x ++ s) ∧ PyFlat.rows k s = some (ys, t) := by
  unfold PyFlat.rows at h
  cases hr : PyFlat.row r with
  | none => rw [hr] at h; cases h
  | some y =>
    obtain ⟨x, s⟩ := y
    rw [hr] at h
    dsimp only at h
    cases hs : PyFlat.rows k s with
    | none => rw [hs] at h; cases h
    | some z =>
      obtain ⟨ys, t'⟩ := z
      rw [hs] at h
      dsimp only at h
      have h := Option.some.inj h
      have e1 : x :: ys = xs := congrArg Prod.fst h
      have e2 : t' = t := congrArg Prod.snd h
      subst e2
      exact ⟨x, ys, s, e1.symm, row_some hr, hs⟩
theorem call_some {p : Int} {rest t : List Int} {c : List (List Int)} {n k : Nat} (h : PyFlat.call PySf83.shape (p :: rest) = some (c, t)) (hs : PySf83.shape p = some (n, k)) : n ≤ rest.length ∧ ∃ xs, PyFlat.rows k (rest.drop n) = some (xs, t) ∧ (p :: rest.take n) :: xs = c := by
  unfold PyFlat.call at h
  dsimp only at h
  rw [hs] at h
  dsimp only at h
  by_cases hl : rest.length < n
  · rw [if_pos hl] at h; cases h
  · rw [if_neg hl] at h
    cases hr : PyFlat.rows k (rest.drop n) with
    | none => rw [hr] at h; cases h
    | some y =>
      obtain ⟨xs, t'⟩ := y
      rw [hr] at h
      dsimp only at h
      have h := Option.some.inj h
      have e2 : t' = t := congrArg Prod.snd h
      subst e2
      exact ⟨by omega, xs, rfl, congrArg Prod.fst h⟩
theorem one_more {r : List Int} {n : Nat} (h : n + 1 ≤ r.length) : ∃ m r', r = m :: r' := by
  cases r with
  | nil => exact absurd h (by show ¬ n + 1 ≤ 0; omega)
  | cons m r' => exact ⟨m, r', rfl⟩
theorem parse {p : Int} {rest t : List Int} {c : List (List Int)} (h : PyFlat.call PySf83.shape (p :: rest) = some (c, t)) (a : Sf83Neutral.asked1 c = true) : ∃ args q, Tbl p args ∧ args rest q t ∧ Sf83Neutral.callOf c = some q := by
  rcases Decidable.em (p = 1) with h1 | h1
  · subst h1
    obtain ⟨hn, xs, hr, hc⟩ := call_some h (show PySf83.shape 1 = some (2, 3) from rfl)
    obtain ⟨i, r1, rfl⟩ := one_more (n := 0) (Nat.le_trans (by decide) hn)
    obtain ⟨ev, r2, rfl⟩ := one_more (n := 0) (r := r1) (by have z : 2 ≤ r1.length + 1 := hn; omega)
    obtain ⟨x1, y1, s1, rfl, g1, hr⟩ := rowsS hr
    obtain ⟨x2, y2, s2, rfl, g2, hr⟩ := rowsS hr
    obtain ⟨x3, y3, s3, rfl, g3, hr⟩ := rowsS hr
    obtain ⟨rfl, rfl⟩ := rows0 hr
    have g1 : r2 = _ := g1
    subst g1 g2 g3
    subst hc
    have a : (Sf83Neutral.whole32 i && (Sf83Neutral.whole32 ev && (x1.all (fun (z : Int) => Sf83Neutral.natural z 8) && (x2.all (fun (z : Int) => Sf83Neutral.natural z 8) && x3.all (fun (z : Int) => Sf83Neutral.natural z 8))))) = true := a
    simp only [Bool.and_eq_true] at a
    exact ⟨_, _, .c1, ⟨i, ev, x1, x2, x3, rfl, a.2.2.1, a.2.2.2.1, a.2.2.2.2, rfl⟩, rfl⟩
  rcases Decidable.em (p = 2) with h2 | h2
  · subst h2
    obtain ⟨hn, xs, hr, hc⟩ := call_some h (show PySf83.shape 2 = some (0, 1) from rfl)
    obtain ⟨x1, y1, s1, rfl, g1, hr⟩ := rowsS hr
    obtain ⟨rfl, rfl⟩ := rows0 hr
    have g1 : rest = _ := g1
    subst g1
    subst hc
    exact ⟨_, _, .c2, ⟨x1, rfl, a, rfl⟩, rfl⟩
  rcases Decidable.em (p = 3) with h3 | h3
  · subst h3
    obtain ⟨hn, xs, hr, hc⟩ := call_some h (show PySf83.shape 3 = some (0, 2) from rfl)
    obtain ⟨x1, y1, s1, rfl, g1, hr⟩ := rowsS hr
    obtain ⟨x2, y2, s2, rfl, g2, hr⟩ := rowsS hr
    obtain ⟨rfl, rfl⟩ := rows0 hr
    have g1 : rest = _ := g1
    subst g1 g2
    subst hc
    have a : (x1.all (fun (z : Int) => Sf83Neutral.natural z 8) && (x2.all (fun (z : Int) => Sf83Neutral.natural z 8))) = true := a
    simp only [Bool.and_eq_true] at a
    exact ⟨_, _, .c3, ⟨x1, x2, rfl, a.1, a.2, rfl⟩, rfl⟩
  rcases Decidable.em (p = 4) with h4 | h4
  · subst h4
    obtain ⟨hn, xs, hr, hc⟩ := call_some h (show PySf83.shape 4 = some (0, 1) from rfl)
    obtain ⟨x1, y1, s1, rfl, g1, hr⟩ := rowsS hr
    obtain ⟨rfl, rfl⟩ := rows0 hr
    have g1 : rest = _ := g1
    subst g1
    subst hc
    exact ⟨_, _, .c4, ⟨x1, rfl, a, rfl⟩, rfl⟩
  rcases Decidable.em (p = 5) with h5 | h5
  · subst h5
    obtain ⟨hn, xs, hr, hc⟩ := call_some h (show PySf83.shape 5 = some (0, 0) from rfl)
    obtain ⟨e1, e2⟩ := rows0 hr
    subst e1
    subst hc
    exact ⟨_, _, .c5, ⟨e2, rfl⟩, rfl⟩
  rcases Decidable.em (p = 6) with h6 | h6
  · subst h6
    obtain ⟨hn, xs, hr, hc⟩ := call_some h (show PySf83.shape 6 = some (0, 0) from rfl)
    obtain ⟨e1, e2⟩ := rows0 hr
    subst e1
    subst hc
    exact ⟨_, _, .c6, ⟨e2, rfl⟩, rfl⟩
  rcases Decidable.em (p = 7) with h7 | h7
  · subst h7
    obtain ⟨hn, xs, hr, hc⟩ := call_some h (show PySf83.shape 7 = some (1, 0) from rfl)
    obtain ⟨e1, e2⟩ := rows0 hr
    subst e1
    obtain ⟨m, r, rfl⟩ := one_more hn
    subst hc
    exact ⟨_, _, .c7, ⟨m, by rw [show r = t from e2], rfl⟩, rfl⟩
  rcases Decidable.em (p = 8) with h8 | h8
  · subst h8
    obtain ⟨hn, xs, hr, hc⟩ := call_some h (show PySf83.shape 8 = some (0, 1) from rfl)
    obtain ⟨x1, y1, s1, rfl, g1, hr⟩ := rowsS hr
    obtain ⟨rfl, rfl⟩ := rows0 hr
    have g1 : rest = _ := g1
    subst g1
    subst hc
    exact ⟨_, _, .c8, ⟨x1, rfl, a, rfl⟩, rfl⟩
  rcases Decidable.em (p = 9) with h9 | h9
  · subst h9
    obtain ⟨hn, xs, hr, hc⟩ := call_some h (show PySf83.shape 9 = some (1, 0) from rfl)
    obtain ⟨e1, e2⟩ := rows0 hr
    subst e1
    obtain ⟨m, r, rfl⟩ := one_more hn
    subst hc
    exact ⟨_, _, .c9, ⟨m, by rw [show r = t from e2], rfl⟩, rfl⟩
  rcases Decidable.em (p = 10) with h10 | h10
  · subst h10
    obtain ⟨hn, xs, hr, hc⟩ := call_some h (show PySf83.shape 10 = some (0, 0) from rfl)
    obtain ⟨e1, e2⟩ := rows0 hr
    subst e1
    subst hc
    exact ⟨_, _, .c10, ⟨e2, rfl⟩, rfl⟩
  rcases Decidable.em (p = 11) with h11 | h11
  · subst h11
    obtain ⟨hn, xs, hr, hc⟩ := call_some h (show PySf83.shape 11 = some (0, 0) from rfl)
    obtain ⟨e1, e2⟩ := rows0 hr
    subst e1
    subst hc
    exact ⟨_, _, .c11, ⟨e2, rfl⟩, rfl⟩
  rcases Decidable.em (p = 12) with h12 | h12
  · subst h12
    obtain ⟨hn, xs, hr, hc⟩ := call_some h (show PySf83.shape 12 = some (0, 4) from rfl)
    obtain ⟨x1, y1, s1, rfl, g1, hr⟩ := rowsS hr
    obtain ⟨x2, y2, s2, rfl, g2, hr⟩ := rowsS hr
    obtain ⟨x3, y3, s3, rfl, g3, hr⟩ := rowsS hr
    obtain ⟨x4, y4, s4, rfl, g4, hr⟩ := rowsS hr
    obtain ⟨rfl, rfl⟩ := rows0 hr
    have g1 : rest = _ := g1
    subst g1 g2 g3 g4
    subst hc
    have a : (x1.all (fun (z : Int) => Sf83Neutral.natural z 8) && (x2.all (fun (z : Int) => Sf83Neutral.natural z 8) && (x3.all (fun (z : Int) => Sf83Neutral.natural z 8) && (x4.all (fun (z : Int) => Sf83Neutral.natural z 8))))) = true := a
    simp only [Bool.and_eq_true] at a
    exact ⟨_, _, .c12, ⟨x1, x2, x3, x4, rfl, a.1, a.2.1, a.2.2.1, a.2.2.2, rfl⟩, rfl⟩
  rcases Decidable.em (p = 13) with h13 | h13
  · subst h13
    obtain ⟨hn, xs, hr, hc⟩ := call_some h (show PySf83.shape 13 = some (0, 4) from rfl)
    obtain ⟨x1, y1, s1, rfl, g1, hr⟩ := rowsS hr
    obtain ⟨x2, y2, s2, rfl, g2, hr⟩ := rowsS hr
    obtain ⟨x3, y3, s3, rfl, g3, hr⟩ := rowsS hr
    obtain ⟨x4, y4, s4, rfl, g4, hr⟩ := rowsS hr
    obtain ⟨rfl, rfl⟩ := rows0 hr
    have g1 : rest = _ := g1
    subst g1 g2 g3 g4
    subst hc
    have a : (x1.all (fun (z : Int) => Sf83Neutral.natural z 8) && (x2.all (fun (z : Int) => Sf83Neutral.natural z 8) && (x3.all (fun (z : Int) => Sf83Neutral.natural z 8) && (x4.all (fun (z : Int) => Sf83Neutral.natural z 8))))) = true := a
    simp only [Bool.and_eq_true] at a
    exact ⟨_, _, .c13, ⟨x1, x2, x3, x4, rfl, a.1, a.2.1, a.2.2.1, a.2.2.2, rfl⟩, rfl⟩
  exfalso
  have e : PySf83.shape p = none := by
    unfold PySf83.shape
    rw [if_neg h1, if_neg h2, if_neg h3, if_neg h4, if_neg h5, if_neg h6, if_neg h7, if_neg h8, if_neg h9, if_neg h10, if_neg h11, if_neg h12, if_neg h13]
  unfold PyFlat.call at h
  dsimp only at h
  rw [e] at h
  cases h
theorem args_len {p : Int} {args : List Int → Sf83.Call → List Int → Prop} (h : Tbl p args) {rest t : List Int} {q : Sf83.Call} (a : args rest q t) : callLen q + t.length ≤ rest.length := by
  cases h with
  | c1 => obtain ⟨i, e, x, y, z, rfl, _, _, _, rfl⟩ := a; simp only [callLen, List.length_cons, List.length_append]; omega
  | c2 => obtain ⟨k, rfl, _, rfl⟩ := a; simp only [callLen, List.length_cons, List.length_append]; omega
  | c3 => obtain ⟨k, u, rfl, _, _, rfl⟩ := a; simp only [callLen, List.length_cons, List.length_append]; omega
  | c4 => obtain ⟨k, rfl, _, rfl⟩ := a; simp only [callLen, List.length_cons, List.length_append]; omega
  | c5 => obtain ⟨rfl, rfl⟩ := a; simp only [callLen]; omega
  | c6 => obtain ⟨rfl, rfl⟩ := a; simp only [callLen]; omega
  | c7 => obtain ⟨m, rfl, rfl⟩ := a; simp only [callLen, List.length_cons]; omega
  | c8 => obtain ⟨k, rfl, _, rfl⟩ := a; simp only [callLen, List.length_cons, List.length_append, bs_len]; omega
  | c9 => obtain ⟨m, rfl, rfl⟩ := a; simp only [callLen, List.length_cons]; omega
  | c10 => obtain ⟨rfl, rfl⟩ := a; simp only [callLen]; omega
  | c11 => obtain ⟨rfl, rfl⟩ := a; simp only [callLen]; omega
  | c12 => obtain ⟨k, u, v, y, rfl, _, _, _, _, rfl⟩ := a; simp only [callLen, List.length_cons, List.length_append]; omega
  | c13 => obtain ⟨k, u, v, y, rfl, _, _, _, _, rfl⟩ := a; simp only [callLen, List.length_cons, List.length_append]; omega
theorem calls_nil {f : Nat} {cs : List (List (List Int))} (h : PyFlat.calls PySf83.shape f [] = some cs) : cs = [] := by
  cases f <;> exact (Option.some.inj h).symm
theorem calls_cons {f : Nat} {p : Int} {r : List Int} {cs : List (List (List Int))} (h : PyFlat.calls PySf83.shape f (p :: r) = some cs) : ∃ g c t cs', PyFlat.call PySf83.shape (p :: r) = some (c, t) ∧ PyFlat.calls PySf83.shape g t = some cs' ∧ cs = c :: cs' := by
  cases f with
  | zero => cases h
  | succ f =>
    unfold PyFlat.calls at h
    cases hc : PyFlat.call PySf83.shape (p :: r) with
    | none => rw [hc] at h; cases h
    | some y =>
      obtain ⟨c, t⟩ := y
      rw [hc] at h
      dsimp only at h
      cases hs : PyFlat.calls PySf83.shape f t with
      | none => rw [hs] at h; cases h
      | some cs' =>
        rw [hs] at h
        exact ⟨f, c, t, cs', rfl, hs, (Option.some.inj h).symm⟩
theorem whole_id (c : List (List Int)) : PySf83.whole c = c := by
  unfold PySf83.whole
  split <;> rfl
theorem told_cons (a : List Int) (l : List (List Int)) : PyFlat.told (a :: l) = ((a.length : Int) :: a) ++ PyFlat.told l := by
  unfold PyFlat.told
  rw [List.flatMap_cons]
theorem told_len : ∀ (cs : List (List (List Int))) (s : Sf83.S), (PyFlat.told (PyFlat.played Sf83Neutral.step s cs)).length = Sf83Neutral.numbers s cs + cs.length
  | [], s => rfl
  | c :: cs, s => by
    show (PyFlat.told ((Sf83Neutral.step s c).2 :: PyFlat.played Sf83Neutral.step (Sf83Neutral.step s c).1 cs)).length = ((Sf83Neutral.step s c).2.length + Sf83Neutral.numbers (Sf83Neutral.step s c).1 cs) + (cs.length + 1)
    rw [told_cons, List.length_append, told_len cs, List.length_cons]
    omega
theorem step_some {s : Sf83.S} {c : List (List Int)} {q : Sf83.Call} (h : Sf83Neutral.callOf c = some q) : Sf83Neutral.step s c = ((Sf83.does s q).1, Sf83Neutral.listOf (Sf83.does s q).2) := by
  unfold Sf83Neutral.step
  rw [h]
def AnsF (P : Program) (w : World) (K : PySem.W.Frag) (mg : Str → Option Value) (base : Heap) (tab : Int → Option Value) (p : Int) (sp : Sp) : Prop :=
  ∃ (f : Addr) (fd : FuncData) (k : Nat), tab p = some (.ref f) ∧ FnOk P w K mg base CX0 k f fd ["end", "reader"] sp ∧ k ≤ 13 ∧ PySem.W.keepIn K (.ref f) = true ∧ Binds K fd ["end", "reader"] []
section
variable {P : Program} {w : World} {K : PySem.W.Frag} {mg : Str → Option Value} {base : Heap} {C : Cs}
abbrev st_answers : Stmt := top 99
theorem sc_answers : FnScope ["calls", "end", "reader", "answered", "answerer", "answer"] ["calls"] (defScope st_answers) := ⟨rfl, rfl, rfl, by decide +kernel, rfl, by decide +kernel, by decide +kernel⟩
theorem bd_answers : BindsOf "answers" "answers" st_answers ["calls"] := fun _ _ _ _ _ _ us hl => match us, hl with | [_], _ => rfl
def spTop (K : PySem.W.Frag) : Sp := fun vs H Q _ => ∃ (l : Addr) (ns : List Int), vs = [.ref l] ∧ SqL K H l (av ns) ∧ ns.length ≤ 30000 ∧ PySf83.answers_asked ns = true ∧ ∀ (H' : Hp) (p : Addr), H' p = some (.lst (av (PySf83.answers ns))) → Q (.ref p) H'
theorem calls_at {H : Hp} {l : Addr} {ns : List Int} (h : SqL K H l (av ns)) : ∃ LC, Cells H LC ∧ ∀ H', Cells H' LC → SqL K H' l (av ns) := by
  rcases h with (h | ⟨o, h⟩) | h
  · exact ⟨[(l, .lst (av ns))], (Cells.nil H).cons (by intro z; cases z) h, fun H' c => .inl (.inl (c.at_ 0 rfl))⟩
  · exact ⟨[(l, .frz o (.lst (av ns)))], (Cells.nil H).cons (by intro z; cases z) h, fun H' c => .inl (.inr ⟨o, c.at_ 0 rfl⟩)⟩
  · exact ⟨[], Cells.nil H, fun H' c => .inr h⟩
theorem ok_answers {f : Addr} {fd : FuncData} (F : Fun K "answers" "answers" st_answers f fd) (G : Glb mg) (T : Txt K mg C) (M_End : MkX P w K mg base "End" C.E 4 ["self"] (spEInit C)) (M_Reader : MkX P w K mg base "Reader" C.R 1 ["self", "calls"] (spRInit C)) (F_has_more : Mt P w K mg base C.R "has_more" 1 ["self"] (spMore K C))
    (F_number : Mt P w K mg base C.R "number" 1 ["self"] (spNumber K C)) {d : Addr} {tab : Int → Option Value} (G_ANSWERERS : mg "ANSWERERS" = some (.ref d)) (TK : TabK K d tab) (AF : ∀ p args, Tbl p args → AnsF P w K mg base tab p (spA K C args)) : FnOk P w K mg base CX0 14 f fd ["calls"] (spTop K) := by
  refine F.ok sc_answers (fun vs H Q E h => ?_) (fun cdv A outer s H vs Q E hr h => ?_)
  · obtain ⟨l, ns, rfl, _⟩ := h
    rfl
  · obtain ⟨l, ns, rfl, hl, nl, ask, r⟩ := h
    refine ⟨_, (pss_cons (ps_set (i := 1) sc_answers.nd rfl (Or.inl rfl) (pe_mk0 M_End hr)) (pss_cons (ps_set (i := 2) sc_answers.nd rfl (Or.inl rfl) (pe_mk M_Reader hr (pa_cons (pv 0) pa_nil))) (pss_cons (ps_set (i := 3) sc_answers.nd rfl (Or.inl rfl) (pe_lst pa_nil)) (pss_cons (ps_while PassesOwn.never (pt_truth (pe_mtX0 (pv 2) T.cR F_has_more hr (by decide) pass0) (fun _ => rfl)) (pss_cons (ps_set (i := 4) sc_answers.nd rfl (Or.inl rfl) (pe_tab G_ANSWERERS (pe_mtX0 (pv 2) T.cR F_number hr (by decide) pass0) (fun _ _ => rfl))) (pss_cons (ps_set (i := 5) sc_answers.nd rfl (Or.inl rfl) (pe_callv (pv 4) hr (pa_cons (pv 1) (pa_cons (pv 2) pa_nil)))) (pss_cons (ps_expr (pe_bm PySem.F.plainAttrs_list PySem.F.slot_list_append PySem.F.type_list_append mt_append (pv 3) (pa_cons (pe_callB call_len_seq rfl G.len boot_len (pa_cons (pv 5) pa_nil)) pa_nil))) (pss_one (ps_expr (pe_bm PySem.F.plainAttrs_list PySem.F.slot_list_extend PySem.F.type_list_extend mt_extend (pv 3) (pa_cons (pv 5) pa_nil)))))))) (pss_one (ps_ret (pv 3))))))), ?_⟩
    obtain ⟨cs, hcs, hall, htot⟩ : ∃ cs, PyFlat.calls PySf83.shape ns.length ns = some cs ∧ cs.all Sf83Neutral.asked1 = true ∧ PyFlat.told (PyFlat.played Sf83Neutral.step Sf83.shut cs) = PySf83.answers ns ∧ (PySf83.answers ns).length ≤ 2000000 := by
      unfold PySf83.answers_asked PySf83.calls at ask
      unfold PySf83.answers PySf83.calls
      cases hc : PyFlat.calls PySf83.shape ns.length ns with
      | none => rw [hc] at ask; cases ask
      | some cs =>
        rw [hc] at ask
        have ew : cs.map PySf83.whole = cs := by
          rw [show PySf83.whole = id from funext whole_id, List.map_id]
        dsimp only at ask ⊢
        rw [ew] at ask ⊢
        rw [Bool.and_eq_true] at ask
        obtain ⟨a1, a2⟩ := ask
        unfold PyFlat.atMost at a1
        unfold Sf83Neutral.asked at a2
        rw [Bool.and_eq_true, Bool.and_eq_true] at a2
        refine ⟨cs, rfl, a2.1.2, rfl, ?_⟩
        rw [told_len]
        have h1 := of_decide_eq_true a1
        have h2 := of_decide_eq_true a2.2
        have h3 : Sf83Neutral.numbers Sf83Neutral.start cs < 1000000 := h2
        omega
    obtain ⟨htot, hlen⟩ := htot
    generalize PySf83.answers ns = tot at *
    obtain ⟨LC, cL, hC⟩ := calls_at hl
    intro e de he hde hne
    have s0 := made_same (C := C.E) he hde
    refine ⟨e, de, LC, rfl, (cL.push s0 he upd_same), fun H1 x1 e1 g1 c1 => ⟨rfl, ?_⟩⟩
    subst e1
    try dsimp only [L2.start, Z1, Z2, Z3, Z4, Z5, Z6, List.replicate, Z7, Z8, Nat.reduceAdd, Nat.reduceSub, Nat.zero_add]
    refine ⟨_, rfl, fun rr dr hrr hdr hner => ⟨rr, dr, l, rfl, upd_same, rfl, ?_⟩⟩
    rw [upd_upd]
    have c2 := Cells.mid (A := eCells C x1 Sf83.shut) (o := robj C dr l 0) c1 (((Same.refl _).upd (o := .own rr) hdr).upd hrr) hrr upd_same
    try dsimp only [L2.start, Z1, Z2, Z3, Z4, Z5, Z6, List.replicate, Z7, Z8, Nat.reduceAdd, Nat.reduceSub, Nat.zero_add]
    refine ⟨Nat.zero_le _, fun an han => ?_⟩
    have c3 := Cells.insert (A := eCells C x1 Sf83.shut ++ [(rr, robj C dr l 0)]) (L := LC) (o := .lst []) ((c2.same ((Same.refl _).upd (o := .lst []) han)).asc) (by rw [List.append_assoc]; exact c2.notin han) upd_same
    try dsimp only [L2.start, Z1, Z2, Z3, Z4, Z5, Z6, List.replicate, Z7, Z8, Nat.reduceAdd, Nat.reduceSub, Nat.zero_add]
    refine ⟨fun m σ H' => ∃ (x : EA) (s : Sf83.S) (LG : List (Addr × HO)) (n : Nat) (out : List Int) (fu : Nat) (cs : List (List (List Int))) (v4 v5 : Option V), σ = [some (.ref l), some (.ref x.e), some (.ref rr), some (.ref an), v4, v5] ∧ Greets C x s LG ∧ Bd s n ∧ Cells H' ((eCells C x s ++ LG) ++ (rr, robj C dr l n) :: (an, .lst (av out)) :: LC) ∧ n ≤ ns.length ∧
      PyFlat.calls PySf83.shape fu (ns.drop n) = some cs ∧ cs.all Sf83Neutral.asked1 = true ∧ out ++ PyFlat.told (PyFlat.played Sf83Neutral.step s cs) = tot ∧ m = ns.length - n, ?_, ?_⟩
    · refine ⟨_, x1, Sf83.shut, [], 0, [], ns.length, cs, none, none, rfl, .inl ⟨(by intro z; cases z), g1, rfl⟩, bd_shut 0, ?_, Nat.zero_le _, hcs, hall, ?_, rfl⟩
      · rw [List.append_nil]
        have z := c3
        rw [List.append_assoc] at z
        exact z
      · rw [List.nil_append]; exact htot
    · rintro m σ H' ⟨x, s, LG, n, out, fu, cs, v4, v5, rfl, GR, BD, c, hn, hcs, hall, htot, rfl⟩
      have sq : SqL K H' l (av ns) := hC H' (c.tail.sub (List.sublist_cons_self _ _))
      refine ⟨_, rfl, _, _, _, rfl, c.memb, rf_no (by decide +kernel), rr, dr, l, n, ns, rfl, c.memb, sq, _, rfl, ifD (fun hlt => ?_) fun hlt => ?_⟩
      · obtain ⟨p, rest, hd⟩ : ∃ p rest, ns.drop n = p :: rest := ⟨_, _, List.drop_eq_getElem_cons hlt⟩
        obtain ⟨_, _, hd1⟩ := drop_get hd
        rw [hd] at hcs
        obtain ⟨g, cc, t, cs', hc, hcs', rfl⟩ := calls_cons hcs
        rw [List.all_cons, Bool.and_eq_true] at hall
        obtain ⟨args, q, tb, ha, hq⟩ := parse hc hall.1
        obtain ⟨f, fd, k, ht, FO, hk, kp, bd⟩ := AF p args tb
        refine ⟨fun σ2 H2 => ∃ (x : EA) (s : Sf83.S) (LG : List (Addr × HO)) (n2 : Nat) (out : List Int) (fu : Nat) (cs : List (List (List Int))) (v4 v5 : Option V), σ2 = [some (.ref l), some (.ref x.e), some (.ref rr), some (.ref an), v4, v5] ∧ Greets C x s LG ∧ Bd s n2 ∧ Cells H2 ((eCells C x s ++ LG) ++ (rr, robj C dr l n2) :: (an, .lst (av out)) :: LC) ∧ n2 ≤ ns.length ∧
          PyFlat.calls PySf83.shape fu (ns.drop n2) = some cs ∧ cs.all Sf83Neutral.asked1 = true ∧ out ++ PyFlat.told (PyFlat.played Sf83Neutral.step s cs) = tot ∧ ns.length - n2 < ns.length - n, fun σ2 H2 ⟨x, s, LG, n2, out, fu, cs, v4, v5, a1, a2, a3, a4, a5, a6, a7, a8, a9⟩ => ⟨_, a9, x, s, LG, n2, out, fu, cs, v4, v5, a1, a2, a3, a4, a5, a6, a7, a8, rfl⟩, ?_⟩
        refine ⟨_, rfl, _, _, _, rfl, c.memb, rf_no (by decide +kernel), rr, dr, l, n, ns, rest, p, rfl, c.memb, sq, hd, p, tab, .ref f, .ref f, rfl, TK, ht, rfl, ?_⟩
        have c1 := c.putM (Keep1 (o := robj C dr l (n + 1))) upd_same
        have ob := BD.ob
        have pb := BD.pb
        have AI : AIn K C _ x s LG ((an, .lst (av out)) :: LC) rr dr l (n + 1) ns := ⟨GR, BD.ft, c1, fun H2 cc => hC H2 (cc.sub (List.sublist_cons_self _ _)), by omega, by omega, nl⟩
        try dsimp only [L2.start, Z1, Z2, Z3, Z4, Z5, Z6, List.replicate, Z7, Z8, Nat.reduceAdd, Nat.reduceSub, Nat.zero_add]
        refine ⟨_, rfl, f, fd, k, _, _, rfl, FO, Nat.le_trans hk (by decide), kp, bd, _, rfl, _, rfl, x, s, LG, _, rr, dr, l, n + 1, ns, q, t, rfl, AI, by omega, by rw [hd1]; exact ha, fun H2 x2 LG2 pp n2 e2 g2 l1 l2 d2 c2 => ?_⟩
        have al := args_len tb ha
        have lr : rest.length + (n + 1) = ns.length := by rw [← hd1, List.length_drop]; omega
        have lt : t.length + n2 = ns.length := by rw [← d2, List.length_drop]; omega
        have BD2 := bd_does (m := n2) BD q (by omega)
        have hst := step_some (s := s) hq
        have htot2 : out ++ (((Sf83Neutral.listOf (Sf83.does s q).2).length : Int) :: Sf83Neutral.listOf (Sf83.does s q).2 ++ PyFlat.told (PyFlat.played Sf83Neutral.step (Sf83.does s q).1 cs')) = tot := by
          rw [← htot]
          show _ = out ++ PyFlat.told ((Sf83Neutral.step s cc).2 :: PyFlat.played Sf83Neutral.step (Sf83Neutral.step s cc).1 cs')
          rw [told_cons, hst]
        generalize (Sf83.does s q).1 = s2 at *
        generalize Sf83Neutral.listOf (Sf83.does s q).2 = an2 at *
        have ll : out.length + (an2.length + 1) ≤ 2000000 := by
          have z := congrArg List.length htot2
          rw [List.length_append, List.length_append, List.length_cons] at z
          omega
        try dsimp only [L2.start, Z1, Z2, Z3, Z4, Z5, Z6, List.replicate, Z7, Z8, Nat.reduceAdd, Nat.reduceSub, Nat.zero_add]
        have c4 := c2.asc.asc
        have fa : H2 an = some (.lst (av out)) := c4.memb
        have fp : H2 pp = some (.lst (av an2)) := c2.memb
        refine ⟨_, rfl, .inl ⟨rfl, _, SqL.of fa⟩, _, rfl, pp, _, rfl, .inl (SqL.of fp), an, _, _, rfl, rfl, fa, by rw [av_len, sizeLine_eq]; omega, ?_⟩
        have c5 := c4.putM (Keep1 (o := .lst (av out ++ [V.int ((av an2).length : Nat)]))) upd_same
        have c5' := c5.asc2
        have fp2 := (c5.asc2.asc2).memb
        refine ⟨_, rfl, .inl ⟨rfl, _, SqL.of c5.memb⟩, _, rfl, an, pp, _, _, rfl, rfl, c5.memb, fp2, by rw [List.length_append, av_len, av_len, sizeLine_eq]; show out.length + 1 + an2.length ≤ _; omega, ?_⟩
        have c6 := c5.putM (Keep1 (o := .lst ((av out ++ [V.int ((av an2).length : Nat)]) ++ av an2))) upd_same
        refine ⟨x2, s2, LG2, n2, out ++ ((an2.length : Int) :: an2), g, cs', some (.ref f), some (.ref pp), by rw [e2]; rfl, g2, BD2, ?_, l2, by rw [d2]; exact hcs', hall.2, ?_, by omega⟩
        · have ea : (av out ++ [V.int ((av an2).length : Nat)]) ++ av an2 = av (out ++ ((an2.length : Int) :: an2)) := by
            rw [av_app, av_len, List.append_assoc]
            rfl
          rw [ea] at c6
          rw [ea]
          have z := c6.asc2.asc2
          exact Cells.unmid (A := eCells C x2 s2 ++ LG2) z
        · rw [List.append_assoc]
          exact htot2
      · have e0 : ns.drop n = [] := List.drop_eq_nil_of_le (by omega)
        rw [e0] at hcs
        have ec := calls_nil hcs
        subst ec
        have eo : out = tot := by
          rw [← htot]
          show out = out ++ []
          rw [List.append_nil]
        subst eo
        exact ⟨_, rfl, r H' an c.asc.memb⟩
end
theorem mkx {P : Program} {w : World} {K : PySem.W.Frag} {mg : Str → Option Value} {base : Heap} {x qual : Str} {st : Stmt} {C : Addr} {k : Nat} {ps : List Str} {sp : Sp} (D : MDef K C "__init__" qual st) (hb : BindsOf "__init__" qual st ps)
    (h : ∀ f fd, Fun K "__init__" qual st f fd → FnOk P w K mg base CX0 k f fd ps sp) (mk : PySem.W.makesIn K C = true) (kc : PySem.W.keepIn K (.ref C) = true) (hm : mg x = some (.ref C)) : MkX P w K mg base x C k ps sp :=
  let ⟨f, fd, F, m⟩ := D; ⟨f, fd, ⟨mk, m.at_, m.fn, kc⟩, h f fd F, F.binds hb, hm⟩
theorem ansf {P : Program} {w : World} {K : PySem.W.Frag} {mg : Str → Option Value} {base : Heap} {tab : Int → Option Value} {p : Int} {x : Str} {k : Nat} {sp : Sp} (F : FnX CX0 P w K mg base x k ["end", "reader"] sp) (t : ∃ f, tab p = some (.ref f) ∧ mg x = some (.ref f)) (hk : k ≤ 13) : AnsF P w K mg base tab p sp := by
  obtain ⟨f, fd, FO, hm, kp, b⟩ := F
  obtain ⟨f', h1, h2⟩ := t
  have e := hm.symm.trans h2
  cases e
  exact ⟨f, fd, k, h1, FO, hk, kp, b⟩
theorem all_defs {P : Program} {w : World} {K : PySem.W.Frag} {mg : Str → Option Value} {fa cE cW cG cR cB d : Addr} {tab : Int → Option Value} (hfa : mg "answers" = some (.ref fa)) (G : Glb mg) (TU : Tups K mg) (T : Txt K mg ⟨cE, cW, cG, cR, cB⟩)
    (mkE : PySem.W.makesIn K cE = true) (mkW : PySem.W.makesIn K cW = true) (mkG : PySem.W.makesIn K cG = true) (mkR : PySem.W.makesIn K cR = true) (kcE : PySem.W.keepIn K (.ref cE) = true) (kcW : PySem.W.keepIn K (.ref cW) = true) (kcG : PySem.W.keepIn K (.ref cG) = true) (kcR : PySem.W.keepIn K (.ref cR) = true)
    (mgE : mg "End" = some (.ref cE)) (mgW : mg "Way" = some (.ref cW)) (mgG : mg "Greeting" = some (.ref cG)) (mgR : mg "Reader" = some (.ref cR)) (G_ANSWERERS : mg "ANSWERERS" = some (.ref d)) (TK : TabK K d tab)
    (d_number_of : Def K mg "number_of" sNum)
    (d_bytes_of : Def K mg "bytes_of" sBytes)
    (d_scalar_of : Def K mg "scalar_of" sScal)
    (d_inverse : Def K mg "inverse" sInv)
    (d_ladder_step : Def K mg "ladder_step" st_ladder_step)
    (d_point : Def K mg "point" st_point)
    (d_public_key : Def K mg "public_key" st_public_key)
    (d_is_zero : Def K mg "is_zero" st_is_zero)
    (d_words_of : Def K mg "words_of" st_words_of)
    (d_bytes_of_words : Def K mg "bytes_of_words" st_bytes_of_words)
    (d_turned : Def K mg "turned" st_turned)
    (d_quarter : Def K mg "quarter" st_quarter)
    (d_ten_rounds : Def K mg "ten_rounds" st_ten_rounds)
    (d_block : Def K mg "block" st_block)
    (d_derived : Def K mg "derived" st_derived)
    (d_mixed : Def K mg "mixed" st_mixed)
    (d_tag : Def K mg "tag" st_tag)
    (d_padded : Def K mg "padded" st_padded)
    (d_tag_of_sealed : Def K mg "tag_of_sealed" st_tag_of_sealed)
    (d_crossed : Def K mg "crossed" st_crossed)
    (d_sealed : Def K mg "sealed" st_sealed)
    (d_opened : Def K mg "opened" st_opened)
    (d_first_chain : Def K mg "first_chain" st_first_chain)
    (d_with_point : Def K mg "with_point" st_with_point)
    (d_longer_chain : Def K mg "longer_chain" st_longer_chain)
    (d_proof : Def K mg "proof" st_proof)
    (d_check_proof : Def K mg "check_proof" st_check_proof)
    (d_Greeting_init : MDef K (Cs.G ⟨cE, cW, cG, cR, cB⟩) "__init__" "Greeting.__init__" st_Greeting_init)
    (d_Greeting_message : MDef K (Cs.G ⟨cE, cW, cG, cR, cB⟩) "message" "Greeting.message" st_Greeting_message)
    (d_Greeting_lead : MDef K (Cs.G ⟨cE, cW, cG, cR, cB⟩) "lead" "Greeting.lead" st_Greeting_lead)
    (d_Greeting_meet_second : MDef K (Cs.G ⟨cE, cW, cG, cR, cB⟩) "meet_second" "Greeting.meet_second" st_Greeting_meet_second)
    (d_Greeting_meet_first : MDef K (Cs.G ⟨cE, cW, cG, cR, cB⟩) "meet_first" "Greeting.meet_first" st_Greeting_meet_first)
    (d_key_of_way : Def K mg "key_of_way" st_key_of_way)
    (d_rest_size : Def K mg "rest_size" st_rest_size)
    (d_check_content : Def K mg "check_content" st_check_content)
    (d_Way_init : MDef K (Cs.W ⟨cE, cW, cG, cR, cB⟩) "__init__" "Way.__init__" st_Way_init)
    (d_Way_nonce : MDef K (Cs.W ⟨cE, cW, cG, cR, cB⟩) "nonce" "Way.nonce" st_Way_nonce)
    (d_Way_step : MDef K (Cs.W ⟨cE, cW, cG, cR, cB⟩) "step" "Way.step" st_Way_step)
    (d_Way_forget : MDef K (Cs.W ⟨cE, cW, cG, cR, cB⟩) "forget" "Way.forget" st_Way_forget)
    (d_Way_record : MDef K (Cs.W ⟨cE, cW, cG, cR, cB⟩) "record" "Way.record" st_Way_record)
    (d_Way_content : MDef K (Cs.W ⟨cE, cW, cG, cR, cB⟩) "content" "Way.content" st_Way_content)
    (d_End_refusal_to_send : MDef K (Cs.E ⟨cE, cW, cG, cR, cB⟩) "refusal_to_send" "End.refusal_to_send" st_End_refusal_to_send)
    (d_End_refusal_to_add : MDef K (Cs.E ⟨cE, cW, cG, cR, cB⟩) "refusal_to_add" "End.refusal_to_add" st_End_refusal_to_add)
    (d_End_refusal_to_hear : MDef K (Cs.E ⟨cE, cW, cG, cR, cB⟩) "refusal_to_hear" "End.refusal_to_hear" st_End_refusal_to_hear)
    (d_End_cut : MDef K (Cs.E ⟨cE, cW, cG, cR, cB⟩) "cut" "End.cut" st_End_cut)
    (d_may_be_most : Def K mg "may_be_most" st_may_be_most)
    (d_End_take : MDef K (Cs.E ⟨cE, cW, cG, cR, cB⟩) "take" "End.take" st_End_take)
    (d_End_read : MDef K (Cs.E ⟨cE, cW, cG, cR, cB⟩) "read" "End.read" st_End_read)
    (d_End_state : MDef K (Cs.E ⟨cE, cW, cG, cR, cB⟩) "state" "End.state" st_End_state)
    (d_End_send : MDef K (Cs.E ⟨cE, cW, cG, cR, cB⟩) "send" "End.send" st_End_send)
    (d_End_send_with_new_key_if_due : MDef K (Cs.E ⟨cE, cW, cG, cR, cB⟩) "send_with_new_key_if_due" "End.send_with_new_key_if_due" st_End_send_with_new_key_if_due)
    (d_End_write : MDef K (Cs.E ⟨cE, cW, cG, cR, cB⟩) "write" "End.write" st_End_write)
    (d_End_renew : MDef K (Cs.E ⟨cE, cW, cG, cR, cB⟩) "renew" "End.renew" st_End_renew)
    (d_End_finish : MDef K (Cs.E ⟨cE, cW, cG, cR, cB⟩) "finish" "End.finish" st_End_finish)
    (d_End_arrived_part : MDef K (Cs.E ⟨cE, cW, cG, cR, cB⟩) "arrived_part" "End.arrived_part" st_End_arrived_part)
    (d_End_receive : MDef K (Cs.E ⟨cE, cW, cG, cR, cB⟩) "receive" "End.receive" st_End_receive)
    (d_End_give_up : MDef K (Cs.E ⟨cE, cW, cG, cR, cB⟩) "give_up" "End.give_up" st_End_give_up)
    (d_End_reset : MDef K (Cs.E ⟨cE, cW, cG, cR, cB⟩) "reset" "End.reset" st_End_reset)
    (d_End_init : MDef K (Cs.E ⟨cE, cW, cG, cR, cB⟩) "__init__" "End.__init__" st_End_init)
    (d_End_has_whole_record : MDef K (Cs.E ⟨cE, cW, cG, cR, cB⟩) "has_whole_record" "End.has_whole_record" st_End_has_whole_record)
    (d_End_meet : MDef K (Cs.E ⟨cE, cW, cG, cR, cB⟩) "meet" "End.meet" st_End_meet)
    (d_End_go_through : MDef K (Cs.E ⟨cE, cW, cG, cR, cB⟩) "go_through" "End.go_through" st_End_go_through)
    (d_End_came : MDef K (Cs.E ⟨cE, cW, cG, cR, cB⟩) "came" "End.came" st_End_came)
    (d_may_begin : Def K mg "may_begin" st_may_begin)
    (d_End_begin : MDef K (Cs.E ⟨cE, cW, cG, cR, cB⟩) "begin" "End.begin" st_End_begin)
    (d_Reader_init : MDef K (Cs.R ⟨cE, cW, cG, cR, cB⟩) "__init__" "Reader.__init__" st_Reader_init)
    (d_Reader_has_more : MDef K (Cs.R ⟨cE, cW, cG, cR, cB⟩) "has_more" "Reader.has_more" st_Reader_has_more)
    (d_Reader_number : MDef K (Cs.R ⟨cE, cW, cG, cR, cB⟩) "number" "Reader.number" st_Reader_number)
    (d_Reader_row : MDef K (Cs.R ⟨cE, cW, cG, cR, cB⟩) "row" "Reader.row" st_Reader_row)
    (d_answer_public : Def K mg "answer_public" st_answer_public)
    (d_answer_shared : Def K mg "answer_shared" st_answer_shared)
    (d_answer_renew : Def K mg "answer_renew" st_answer_renew)
    (d_answer_end : Def K mg "answer_end" st_answer_end)
    (d_answer_cut : Def K mg "answer_cut" st_answer_cut)
    (d_answer_state : Def K mg "answer_state" st_answer_state)
    (d_answer_take : Def K mg "answer_take" st_answer_take)
    (d_answer_read : Def K mg "answer_read" st_answer_read)
    (d_answer_write : Def K mg "answer_write" st_answer_write)
    (d_answer_came : Def K mg "answer_came" st_answer_came)
    (d_answer_begin : Def K mg "answer_begin" st_answer_begin)
    (d_may_be_sealed : Def K mg "may_be_sealed" st_may_be_sealed)
    (d_answer_seal : Def K mg "answer_seal" st_answer_seal)
    (d_answer_unseal : Def K mg "answer_unseal" st_answer_unseal)
    (t1 : ∃ f, tab 1 = some (.ref f) ∧ mg "answer_begin" = some (.ref f)) (t2 : ∃ f, tab 2 = some (.ref f) ∧ mg "answer_public" = some (.ref f)) (t3 : ∃ f, tab 3 = some (.ref f) ∧ mg "answer_shared" = some (.ref f)) (t4 : ∃ f, tab 4 = some (.ref f) ∧ mg "answer_write" = some (.ref f)) (t5 : ∃ f, tab 5 = some (.ref f) ∧ mg "answer_renew" = some (.ref f)) (t6 : ∃ f, tab 6 = some (.ref f) ∧ mg "answer_end" = some (.ref f)) (t7 : ∃ f, tab 7 = some (.ref f) ∧ mg "answer_take" = some (.ref f)) (t8 : ∃ f, tab 8 = some (.ref f) ∧ mg "answer_came" = some (.ref f)) (t9 : ∃ f, tab 9 = some (.ref f) ∧ mg "answer_read" = some (.ref f)) (t10 : ∃ f, tab 10 = some (.ref f) ∧ mg "answer_cut" = some (.ref f)) (t11 : ∃ f, tab 11 = some (.ref f) ∧ mg "answer_state" = some (.ref f)) (t12 : ∃ f, tab 12 = some (.ref f) ∧ mg "answer_seal" = some (.ref f)) (t13 : ∃ f, tab 13 = some (.ref f) ∧ mg "answer_unseal" = some (.ref f))
    (d_answers : Def K mg "answers" st_answers) :
    ∃ fd : FuncData, (∀ (s : Shared) (us : List Value), us.length = (["calls"] : List Str).length → BindsTo s fd ⟨us, []⟩ ((["calls"] : List Str).zip us)) ∧ ∀ base : Heap, K.In base → base.Ns mainGlobals mg → FnOk P w K mg base CX0 14 fa fd ["calls"] (spTop K) := by
  obtain ⟨f, fd, F, hm⟩ := d_answers
  have e := hm.symm.trans hfa
  cases e
  refine ⟨fd, fun s us hu => ?_, fun base _ _ => ?_⟩
  · obtain ⟨oc, od, kV, doc, pm, an, cdv, ct, osl, rfl, _, _⟩ := F.ex
    exact .of_eq (bd_answers kV doc pm an cdv ct us hu)
  · have F_number_of : Fn P w K mg base "number_of" 1 ["row"] (spNum K) := d_number_of.fn (fun _ _ _ _ _ _ us hl => match us, hl with | [_], _ => rfl) (fun _ _ F => ok_num F G)
    have F_bytes_of : Fn P w K mg base "bytes_of" 1 ["number", "size"] spBytes := d_bytes_of.fn (fun _ _ _ _ _ _ us hl => match us, hl with | [_, _], _ => rfl) (fun _ _ F => ok_bytes F G)
    have F_scalar_of : Fn P w K mg base "scalar_of" 2 ["key"] (spScal K) := d_scalar_of.fn (fun _ _ _ _ _ _ us hl => match us, hl with | [_], _ => rfl) (fun _ _ F => ok_scal F G F_number_of)
    have F_inverse : Fn P w K mg base "inverse" 1 ["number"] spInv := d_inverse.fn (fun _ _ _ _ _ _ us hl => match us, hl with | [_], _ => rfl) (fun _ _ F => ok_inv F G)
    have F_ladder_step : Fn P w K mg base "ladder_step" 1 ["x", "pair", "other"] (spLad K) := d_ladder_step.fn bd_ladder_step (fun _ _ F => ok_lad F G)
    have F_point : Fn P w K mg base "point" 3 ["key", "u"] (spPoint K) := d_point.fn bd_point (fun _ _ F => ok_point F G F_scalar_of F_number_of F_ladder_step F_inverse F_bytes_of)
    have F_public_key : Fn P w K mg base "public_key" 4 ["key"] (spPub K) := d_public_key.fn bd_public_key (fun _ _ F => ok_pub F G F_point F_bytes_of)
    have F_is_zero : Fn P w K mg base "is_zero" 1 ["row"] (spZero K) := d_is_zero.fn bd_is_zero (fun _ _ F => ok_zero F G)
    have F_words_of : Fn P w K mg base "words_of" 2 ["row"] (spWords K) := d_words_of.fn bd_words_of (fun _ _ F => ok_words F G F_number_of)
    have F_bytes_of_words : Fn P w K mg base "bytes_of_words" 2 ["words"] (spUnwords K) := d_bytes_of_words.fn bd_bytes_of_words (fun _ _ F => ok_unwords F G F_bytes_of)
    have F_turned : Fn P w K mg base "turned" 1 ["word", "bits"] spTurned := d_turned.fn bd_turned (fun _ _ F => ok_turned F G)
    have F_quarter : Fn P w K mg base "quarter" 2 ["words", "places"] (spQuarter K) := d_quarter.fn bd_quarter (fun _ _ F => ok_quarter F G F_turned)
    have F_ten_rounds : Fn P w K mg base "ten_rounds" 3 ["start"] (spRounds K) := d_ten_rounds.fn bd_ten_rounds (fun _ _ F => ok_rounds F G TU F_quarter)
    have F_block : Fn P w K mg base "block" 4 ["key", "number", "nonce"] (spBlock K) := d_block.fn bd_block (fun _ _ F => ok_block F G TU F_words_of F_ten_rounds F_bytes_of_words)
    have F_derived : Fn P w K mg base "derived" 4 ["key", "row"] (spDerived K) := d_derived.fn bd_derived (fun _ _ F => ok_derived F G TU F_words_of F_ten_rounds F_bytes_of_words)
    have F_mixed : Fn P w K mg base "mixed" 5 ["key", "row"] (spMixed K) := d_mixed.fn bd_mixed (fun _ _ F => ok_mixed F G F_derived)
    have F_tag : Fn P w K mg base "tag" 2 ["key", "row"] (spTag K) := d_tag.fn bd_tag (fun _ _ F => ok_tag F G F_number_of F_bytes_of)
    have F_padded : Fn P w K mg base "padded" 1 ["row"] spPadded := d_padded.fn bd_padded (fun _ _ F => ok_padded F G)
    have F_tag_of_sealed : Fn P w K mg base "tag_of_sealed" 5 ["key", "nonce", "along", "hidden"] (spTagS K) := d_tag_of_sealed.fn bd_tag_of_sealed (fun _ _ F => ok_tagS F G F_bytes_of F_block F_padded F_tag)
    have F_crossed : Fn P w K mg base "crossed" 5 ["key", "nonce", "row"] (spCross K) := d_crossed.fn bd_crossed (fun _ _ F => ok_cross F G F_block)
    have F_sealed : Fn P w K mg base "sealed" 6 ["key", "nonce", "along", "row"] (spSeal K) := d_sealed.fn bd_sealed (fun _ _ F => ok_seal F G F_crossed F_tag_of_sealed)
    have F_opened : Fn P w K mg base "opened" 6 ["key", "nonce", "along", "row"] (spOpen K) := d_opened.fn bd_opened (fun _ _ F => ok_open F G F_crossed F_tag_of_sealed)
    have F_first_chain : Fn P w K mg base "first_chain" 1 [] spFirst := d_first_chain.fn bd_first_chain (fun _ _ F => ok_first F G)
    have F_with_point : Fn1 P w K mg base "with_point" 6 ["chain", "key", "u"] (spWith K ⟨cE, cW, cG, cR, cB⟩) := d_with_point.fn bd_with_point (fun _ _ F => ok_with F G T F_point F_is_zero F_mixed)
    have F_longer_chain : Fn1 P w K mg base "longer_chain" 7 ["chain", "publics", "pairs"] (spLonger K ⟨cE, cW, cG, cR, cB⟩) := d_longer_chain.fn bd_longer_chain (fun _ _ F => ok_longer F G T F_with_point F_mixed)
    have F_proof : Fn P w K mg base "proof" 7 ["chain"] (spProof K) := d_proof.fn bd_proof (fun _ _ F => ok_proof F G TU F_sealed)
    have F_check_proof : Fn1 P w K mg base "check_proof" 8 ["chain", "message"] (spCheck K ⟨cE, cW, cG, cR, cB⟩) := d_check_proof.fn bd_check_proof (fun _ _ F => ok_check F G T F_proof)
    have M_Greeting : MkX P w K mg base "Greeting" (Cs.G ⟨cE, cW, cG, cR, cB⟩) 5 ["self", "own", "other", "fleeting"] (spGInit K ⟨cE, cW, cG, cR, cB⟩) := mkx d_Greeting_init bd_Greeting_init (fun _ _ F => ok_ginit F G T F_public_key F_first_chain) mkG kcG mgG
    have F_message : Mt P w K mg base (Cs.G ⟨cE, cW, cG, cR, cB⟩) "message" 8 ["self"] (spMsg K ⟨cE, cW, cG, cR, cB⟩) := d_Greeting_message.mt bd_Greeting_message (fun _ _ F => ok_msg F G T F_proof)
    have F_lead : Mt1 P w K mg base (Cs.G ⟨cE, cW, cG, cR, cB⟩) "lead" 8 ["self"] (spLead K ⟨cE, cW, cG, cR, cB⟩) := d_Greeting_lead.mt bd_Greeting_lead (fun _ _ F => ok_lead F G T F_longer_chain)
    have F_meet_second : Mt1 P w K mg base (Cs.G ⟨cE, cW, cG, cR, cB⟩) "meet_second" 9 ["self", "message"] (spMeet2 K ⟨cE, cW, cG, cR, cB⟩) := d_Greeting_meet_second.mt bd_Greeting_meet_second (fun _ _ F => ok_meet2 F G T F_longer_chain F_check_proof)
    have F_meet_first : Mt1 P w K mg base (Cs.G ⟨cE, cW, cG, cR, cB⟩) "meet_first" 9 ["self", "message"] (spMeet1 K ⟨cE, cW, cG, cR, cB⟩) := d_Greeting_meet_first.mt bd_Greeting_meet_first (fun _ _ F => ok_meet1 F G T F_longer_chain F_check_proof)
    have F_key_of_way : Fn P w K mg base "key_of_way" 6 ["chain", "number"] (spKeyW K) := d_key_of_way.fn bd_key_of_way (fun _ _ F => ok_keyw F G F_mixed F_bytes_of)
    have F_rest_size : Fn1 P w K mg base "rest_size" 1 ["head"] (spRest K ⟨cE, cW, cG, cR, cB⟩) := d_rest_size.fn bd_rest_size (fun _ _ F => ok_rest F G T)
    have F_check_content : Fn1 P w K mg base "check_content" 1 ["kind", "data"] (spContent K ⟨cE, cW, cG, cR, cB⟩) := d_check_content.fn bd_check_content (fun _ _ F => ok_content F G T)
    have M_Way : MkX P w K mg base "Way" (Cs.W ⟨cE, cW, cG, cR, cB⟩) 1 ["self", "key"] (spWInit ⟨cE, cW, cG, cR, cB⟩) := mkx d_Way_init bd_Way_init (fun _ _ F => ok_winit F G T) mkW kcW mgW
    have F_nonce : Mt P w K mg base (Cs.W ⟨cE, cW, cG, cR, cB⟩) "nonce" 2 ["self"] (spNonce ⟨cE, cW, cG, cR, cB⟩) := d_Way_nonce.mt bd_Way_nonce (fun _ _ F => ok_nonce F G T F_bytes_of)
    have F_step : Mt P w K mg base (Cs.W ⟨cE, cW, cG, cR, cB⟩) "step" 7 ["self", "kind"] (spStep ⟨cE, cW, cG, cR, cB⟩) := d_Way_step.mt bd_Way_step (fun _ _ F => ok_step F G T F_key_of_way)
    have F_forget : MtU P w K mg base (Cs.W ⟨cE, cW, cG, cR, cB⟩) "forget" 1 ["self"] (spForget ⟨cE, cW, cG, cR, cB⟩) := d_Way_forget.mu bd_Way_forget (fun _ _ F => ok_forget F G T)
    have F_record : Mt P w K mg base (Cs.W ⟨cE, cW, cG, cR, cB⟩) "record" 8 ["self", "kind", "data"] (spRecord ⟨cE, cW, cG, cR, cB⟩) := d_Way_record.mt bd_Way_record (fun _ _ F => ok_record F G T F_sealed F_nonce F_step)
    have F_content : Mt1 P w K mg base (Cs.W ⟨cE, cW, cG, cR, cB⟩) "content" 8 ["self", "head", "rest"] (spInner K ⟨cE, cW, cG, cR, cB⟩) := d_Way_content.mt bd_Way_content (fun _ _ F => ok_inner F G T F_opened F_nonce F_step F_check_content)
    have F_refusal_to_send : Mt P w K mg base (Cs.E ⟨cE, cW, cG, cR, cB⟩) "refusal_to_send" 1 ["self"] (spRef ⟨cE, cW, cG, cR, cB⟩ refS) := d_End_refusal_to_send.mt bd_End_refusal_to_send (fun _ _ F => ok_refS F G T)
    have F_refusal_to_add : Mt P w K mg base (Cs.E ⟨cE, cW, cG, cR, cB⟩) "refusal_to_add" 2 ["self"] (spRef ⟨cE, cW, cG, cR, cB⟩ refA) := d_End_refusal_to_add.mt bd_End_refusal_to_add (fun _ _ F => ok_refA F G T F_refusal_to_send)
    have F_refusal_to_hear : Mt P w K mg base (Cs.E ⟨cE, cW, cG, cR, cB⟩) "refusal_to_hear" 1 ["self"] (spRef ⟨cE, cW, cG, cR, cB⟩ refH) := d_End_refusal_to_hear.mt bd_End_refusal_to_hear (fun _ _ F => ok_refH F G T)
    have F_cut : Mt P w K mg base (Cs.E ⟨cE, cW, cG, cR, cB⟩) "cut" 2 ["self"] (spRef ⟨cE, cW, cG, cR, cB⟩ cutOf) := d_End_cut.mt bd_End_cut (fun _ _ F => ok_cut F G T F_refusal_to_hear)
    have F_may_be_most : Fn P w K mg base "may_be_most" 1 ["most"] spMost := d_may_be_most.fn bd_may_be_most (fun _ _ F => ok_most F G)
    have F_take : Mt P w K mg base (Cs.E ⟨cE, cW, cG, cR, cB⟩) "take" 2 ["self", "most"] (spTake ⟨cE, cW, cG, cR, cB⟩) := d_End_take.mt bd_End_take (fun _ _ F => ok_take F G T F_may_be_most)
    have F_read : Mt P w K mg base (Cs.E ⟨cE, cW, cG, cR, cB⟩) "read" 2 ["self", "most"] (spRead ⟨cE, cW, cG, cR, cB⟩) := d_End_read.mt bd_End_read (fun _ _ F => ok_read F G T F_may_be_most)
    have F_state : Mt P w K mg base (Cs.E ⟨cE, cW, cG, cR, cB⟩) "state" 1 ["self"] (spState ⟨cE, cW, cG, cR, cB⟩) := d_End_state.mt bd_End_state (fun _ _ F => ok_state F G T)
    have F_send : Mt P w K mg base (Cs.E ⟨cE, cW, cG, cR, cB⟩) "send" 9 ["self", "kind", "data"] (spSend ⟨cE, cW, cG, cR, cB⟩) := d_End_send.mt bd_End_send (fun _ _ F => ok_send F G T F_record)
    have F_send_with_new_key_if_due : Mt P w K mg base (Cs.E ⟨cE, cW, cG, cR, cB⟩) "send_with_new_key_if_due" 10 ["self", "kind", "data"] (spDue ⟨cE, cW, cG, cR, cB⟩) := d_End_send_with_new_key_if_due.mt bd_End_send_with_new_key_if_due (fun _ _ F => ok_due F G T F_send)
    have F_write : Mt P w K mg base (Cs.E ⟨cE, cW, cG, cR, cB⟩) "write" 11 ["self", "data"] (spWrite ⟨cE, cW, cG, cR, cB⟩) := d_End_write.mt bd_End_write (fun _ _ F => ok_write F G T F_refusal_to_add F_send_with_new_key_if_due)
    have F_renew : Mt P w K mg base (Cs.E ⟨cE, cW, cG, cR, cB⟩) "renew" 10 ["self"] (spRenew ⟨cE, cW, cG, cR, cB⟩) := d_End_renew.mt bd_End_renew (fun _ _ F => ok_renew F G T F_refusal_to_add F_send)
    have F_finish : Mt P w K mg base (Cs.E ⟨cE, cW, cG, cR, cB⟩) "finish" 11 ["self"] (spFinish ⟨cE, cW, cG, cR, cB⟩) := d_End_finish.mt bd_End_finish (fun _ _ F => ok_finish F G T F_refusal_to_send F_send_with_new_key_if_due)
    have F_arrived_part : Mt P w K mg base (Cs.E ⟨cE, cW, cG, cR, cB⟩) "arrived_part" 1 ["self", "size"] (spPart ⟨cE, cW, cG, cR, cB⟩) := d_End_arrived_part.mt bd_End_arrived_part (fun _ _ F => ok_part F G T)
    have F_receive : Mt P w K mg base (Cs.E ⟨cE, cW, cG, cR, cB⟩) "receive" 1 ["self", "inner"] (spReceive ⟨cE, cW, cG, cR, cB⟩) := d_End_receive.mt bd_End_receive (fun _ _ F => ok_receive F G T)
    have F_give_up : MtU P w K mg base (Cs.E ⟨cE, cW, cG, cR, cB⟩) "give_up" 2 ["self"] (spGive ⟨cE, cW, cG, cR, cB⟩) := d_End_give_up.mu bd_End_give_up (fun _ _ F => ok_give F G T F_forget)
    have F_reset : Mt P w K mg base (Cs.E ⟨cE, cW, cG, cR, cB⟩) "reset" 3 ["self"] (spReset ⟨cE, cW, cG, cR, cB⟩) := d_End_reset.mt bd_End_reset (fun _ _ F => ok_reset F G T M_Way)
    have M_End : MkX P w K mg base "End" (Cs.E ⟨cE, cW, cG, cR, cB⟩) 4 ["self"] (spEInit ⟨cE, cW, cG, cR, cB⟩) := mkx d_End_init bd_End_init (fun _ _ F => ok_einit F G T F_reset) mkE kcE mgE
    have F_has_whole_record : Mt1 P w K mg base (Cs.E ⟨cE, cW, cG, cR, cB⟩) "has_whole_record" 2 ["self"] (spHas ⟨cE, cW, cG, cR, cB⟩) := d_End_has_whole_record.mt bd_End_has_whole_record (fun _ _ F => ok_has F G T F_rest_size)
    have F_meet : Mt1 P w K mg base (Cs.E ⟨cE, cW, cG, cR, cB⟩) "meet" 10 ["self", "message"] (spMeet ⟨cE, cW, cG, cR, cB⟩) := d_End_meet.mt bd_End_meet (fun _ _ F => ok_meet F G T F_meet_second F_meet_first F_message F_key_of_way M_Way)
    have F_go_through : Mt1 P w K mg base (Cs.E ⟨cE, cW, cG, cR, cB⟩) "go_through" 11 ["self"] (spGo ⟨cE, cW, cG, cR, cB⟩) := d_End_go_through.mt bd_End_go_through (fun _ _ F => ok_go F G T F_meet F_arrived_part F_has_whole_record F_receive F_content F_rest_size)
    have F_came : Mt P w K mg base (Cs.E ⟨cE, cW, cG, cR, cB⟩) "came" 12 ["self", "data"] (spCame ⟨cE, cW, cG, cR, cB⟩) := d_End_came.mt bd_End_came (fun _ _ F => ok_came F G T F_refusal_to_hear F_go_through F_give_up)
    have F_may_begin : Fn P w K mg base "may_begin" 1 ["first", "every", "rows"] (spMayB K) := d_may_begin.fn bd_may_begin (fun _ _ F => ok_mayb F G)
    have F_begin : Mt P w K mg base (Cs.E ⟨cE, cW, cG, cR, cB⟩) "begin" 9 ["self", "first", "every", "own", "other", "fleeting"] (spBegin ⟨cE, cW, cG, cR, cB⟩) := d_End_begin.mt bd_End_begin (fun _ _ F => ok_begin F G T F_may_begin F_reset M_Greeting F_lead F_give_up F_message)
    have M_Reader : MkX P w K mg base "Reader" (Cs.R ⟨cE, cW, cG, cR, cB⟩) 1 ["self", "calls"] (spRInit ⟨cE, cW, cG, cR, cB⟩) := mkx d_Reader_init bd_Reader_init (fun _ _ F => ok_rinit F G T) mkR kcR mgR
    have F_has_more : Mt P w K mg base (Cs.R ⟨cE, cW, cG, cR, cB⟩) "has_more" 1 ["self"] (spMore K ⟨cE, cW, cG, cR, cB⟩) := d_Reader_has_more.mt bd_Reader_has_more (fun _ _ F => ok_more F G T)
    have F_number : Mt P w K mg base (Cs.R ⟨cE, cW, cG, cR, cB⟩) "number" 1 ["self"] (spNumber K ⟨cE, cW, cG, cR, cB⟩) := d_Reader_number.mt bd_Reader_number (fun _ _ F => ok_number F G T)
    have F_row : Mt P w K mg base (Cs.R ⟨cE, cW, cG, cR, cB⟩) "row" 2 ["self"] (spRow K ⟨cE, cW, cG, cR, cB⟩) := d_Reader_row.mt bd_Reader_row (fun _ _ F => ok_row F G T F_number)
    have F_answer_public : FnX CX0 P w K mg base "answer_public" 5 ["end", "reader"] (spA K ⟨cE, cW, cG, cR, cB⟩ (aRow .public_)) := d_answer_public.fn bd_answer_public (fun _ _ F => ok_apublic F G T F_row F_public_key)
    have F_answer_shared : FnX CX0 P w K mg base "answer_shared" 4 ["end", "reader"] (spA K ⟨cE, cW, cG, cR, cB⟩ (aRow2 .shared)) := d_answer_shared.fn bd_answer_shared (fun _ _ F => ok_ashared F G T F_row F_point F_is_zero)
    have F_answer_renew : FnX CX0 P w K mg base "answer_renew" 11 ["end", "reader"] (spA K ⟨cE, cW, cG, cR, cB⟩ (aNone .renew)) := d_answer_renew.fn bd_answer_renew (fun _ _ F => ok_arenew F G T F_renew)
    have F_answer_end : FnX CX0 P w K mg base "answer_end" 12 ["end", "reader"] (spA K ⟨cE, cW, cG, cR, cB⟩ (aNone .end_)) := d_answer_end.fn bd_answer_end (fun _ _ F => ok_aend F G T F_finish)
    have F_answer_cut : FnX CX0 P w K mg base "answer_cut" 3 ["end", "reader"] (spA K ⟨cE, cW, cG, cR, cB⟩ (aNone .cut)) := d_answer_cut.fn bd_answer_cut (fun _ _ F => ok_acut F G T F_cut)
    have F_answer_state : FnX CX0 P w K mg base "answer_state" 2 ["end", "reader"] (spA K ⟨cE, cW, cG, cR, cB⟩ (aNone .state)) := d_answer_state.fn bd_answer_state (fun _ _ F => ok_astate F G T F_state)
    have F_answer_take : FnX CX0 P w K mg base "answer_take" 3 ["end", "reader"] (spA K ⟨cE, cW, cG, cR, cB⟩ (aInt .take)) := d_answer_take.fn bd_answer_take (fun _ _ F => ok_atake F G T F_take F_number)
    have F_answer_read : FnX CX0 P w K mg base "answer_read" 3 ["end", "reader"] (spA K ⟨cE, cW, cG, cR, cB⟩ (aInt .read)) := d_answer_read.fn bd_answer_read (fun _ _ F => ok_aread F G T F_read F_number)
    have F_answer_write : FnX CX0 P w K mg base "answer_write" 12 ["end", "reader"] (spA K ⟨cE, cW, cG, cR, cB⟩ (aRow .write)) := d_answer_write.fn bd_answer_write (fun _ _ F => ok_awrite F G T F_write F_row)
    have F_answer_came : FnX CX0 P w K mg base "answer_came" 13 ["end", "reader"] (spA K ⟨cE, cW, cG, cR, cB⟩ (aRow .came)) := d_answer_came.fn bd_answer_came (fun _ _ F => ok_acame F G T F_came F_row)
    have F_answer_begin : FnX CX0 P w K mg base "answer_begin" 10 ["end", "reader"] (spA K ⟨cE, cW, cG, cR, cB⟩ aOpen) := d_answer_begin.fn bd_answer_begin (fun _ _ F => ok_abegin F G T F_begin F_row F_number)
    have F_may_be_sealed : Fn P w K mg base "may_be_sealed" 1 ["key", "nonce", "others", "most"] spMayS := d_may_be_sealed.fn bd_may_be_sealed (fun _ _ F => ok_mays F G)
    have F_answer_seal : FnX CX0 P w K mg base "answer_seal" 7 ["end", "reader"] (spA K ⟨cE, cW, cG, cR, cB⟩ (aRow4 .seals)) := d_answer_seal.fn bd_answer_seal (fun _ _ F => ok_aseal F G T F_row F_may_be_sealed F_sealed)
    have F_answer_unseal : FnX CX0 P w K mg base "answer_unseal" 7 ["end", "reader"] (spA K ⟨cE, cW, cG, cR, cB⟩ (aRow4 .unseal_)) := d_answer_unseal.fn bd_answer_unseal (fun _ _ F => ok_aunseal F G T F_row F_may_be_sealed F_opened)
    refine ok_answers F G T M_End M_Reader F_has_more F_number G_ANSWERERS TK fun p args tb => ?_
    cases tb with
    | c1 => exact ansf F_answer_begin t1 (by decide)
    | c2 => exact ansf F_answer_public t2 (by decide)
    | c3 => exact ansf F_answer_shared t3 (by decide)
    | c4 => exact ansf F_answer_write t4 (by decide)
    | c5 => exact ansf F_answer_renew t5 (by decide)
    | c6 => exact ansf F_answer_end t6 (by decide)
    | c7 => exact ansf F_answer_take t7 (by decide)
    | c8 => exact ansf F_answer_came t8 (by decide)
    | c9 => exact ansf F_answer_read t9 (by decide)
    | c10 => exact ansf F_answer_cut t10 (by decide)
    | c11 => exact ansf F_answer_state t11 (by decide)
    | c12 => exact ansf F_answer_seal t12 (by decide)
    | c13 => exact ansf F_answer_unseal t13 (by decide)
end S
section
set_option maxHeartbeats 2000000
namespace L2
open PySem PySem.Spec PyProof.Rows
open PySem.W (WData Codec OpenSpec Well WellAll ReadsW ReadsAllW)
mutual
inductive Dw (K : PySem.W.Frag) (H : Hp) : V → WData → Prop
  | non : Dw K H .non .none
  | bl (b : Bool) : Dw K H (.bl b) (.bool b)
  | int (i : Int) : Dw K H (.int i) (.int i)
  | str (x : Str) : Dw K H (.str x) (.str x)
  | byt (b : Array UInt8) : Dw K H (.byt b) (.bytes b.toList)
  | lst {a : Addr} {xs : List V} {ds : List WData} : SqL K H a xs → DwAll K H xs ds → Dw K H (.ref a) (.list ds)
  | tup {a : Addr} {xs : List V} {ds : List WData} : SqT K H a xs → DwAll K H xs ds → Dw K H (.ref a) (.tuple ds)
inductive DwAll (K : PySem.W.Frag) (H : Hp) : List V → List WData → Prop
  | nil : DwAll K H [] []
  | cons {v : V} {vs : List V} {d : WData} {ds : List WData} : Dw K H v d → DwAll K H vs ds → DwAll K H (v :: vs) (d :: ds)
end
theorem dw_ints {K : PySem.W.Frag} {H : Hp} : ∀ ns : List Int, DwAll K H (ns.map V.int) (ns.map WData.int)
  | [] => .nil
  | n :: r => .cons (.int n) (dw_ints r)
theorem ints_dw {K : PySem.W.Frag} {H : Hp} : ∀ (ns : List Int) (xs : List V), DwAll K H xs (ns.map WData.int) → xs = ns.map V.int
  | [], xs, h => by
    cases h
    rfl
  | n :: r, xs, h => by
    cases h with
    | cons h1 h2 =>
      cases h1
      rw [ints_dw r _ h2] <;> rfl
section
variable {P : Program} {w : World} {K : PySem.W.Frag} {H : Hp} {h : Heap} {R : PySem.W.WRecords} {cl : Str → Option Addr}
theorem sqL_at {a : Addr} {xs : List V} (hok : HOk P w H h) (KX : K.In h) (q : SqL K H a xs) : ∃ (its : List Value) (o : Obj) (n : Nat), Vals xs its ∧ h.get? a = some o ∧ o.cls = .type "list" ∧ o.data = .seq its.toArray n := by
  rcases q with q | ⟨o, its, n, e, hc, _, hd, _, hv⟩
  · obtain ⟨_, its, n, hv, e⟩ := (show ObjOk P w H h a (.lst xs) from q.ok hok)
    exact ⟨its, _, n, hv, e, rfl, rfl⟩
  · exact ⟨its.toList, o, n, hv, KX _ _ e, hc, by simp [hd]⟩
theorem sqT_at {a : Addr} {xs : List V} (hok : HOk P w H h) (KX : K.In h) (q : SqT K H a xs) : ∃ (its : List Value) (o : Obj) (n : Nat), Vals xs its ∧ h.get? a = some o ∧ o.cls = .type "tuple" ∧ o.data = .seq its.toArray n := by
  rcases q with q | ⟨o, its, n, e, hc, hd, _, hv⟩
  · obtain ⟨_, its, hv, o, e, hc, n, hd⟩ := (show ObjOk P w H h a (.tup xs) from q.ok hok)
    exact ⟨its, o, n, hv, e, hc, hd⟩
  · exact ⟨its.toList, o, n, hv, KX _ _ e, hc, by simp [hd]⟩
mutual
theorem Dw.reads (hok : HOk P w H h) (KX : K.In h) : ∀ (d : WData) (v : V) (u : Value), Dw K H v d → RelV v u → ∃ as, ReadsW R cl h u d as
  | .none, _, _, x, r => by
    cases x
    cases r
    exact ⟨_, ReadsW.none⟩
  | .bool b, _, _, x, r => by
    cases x
    cases r
    exact ⟨_, ReadsW.bool b⟩
  | .int i, _, _, x, r => by
    cases x
    obtain ⟨t, rfl⟩ := r
    exact ⟨_, ReadsW.int i t⟩
  | .str s, _, _, x, r => by
    cases x
    obtain ⟨t, rfl⟩ := r
    exact ⟨_, ReadsW.str s t⟩
  | .bytes b, _, _, x, r => by
    cases x
    obtain ⟨t, rfl⟩ := r
    exact ⟨_, ReadsW.bytes _ t⟩
  | .list ds, _, _, x, r => by
    cases x with
    | lst hs ha =>
      cases r
      obtain ⟨its, o, n, rv, ho, hc, hd⟩ := sqL_at hok KX hs
      obtain ⟨as, hr⟩ := Dw.readsAll hok KX ds _ its ha rv
      exact ⟨_, ReadsW.list ho hc hd hr⟩
  | .tuple ds, _, _, x, r => by
    cases x with
    | tup hs ha =>
      cases r
      obtain ⟨its, o, n, rv, ho, hc, hd⟩ := sqT_at hok KX hs
      obtain ⟨as, hr⟩ := Dw.readsAll hok KX ds _ its ha rv
      exact ⟨_, ReadsW.tuple ho hc hd hr⟩
  | .float _, _, _, x, _ => by cases x
  | .dict _, _, _, x, _ => by cases x
  | .bytearray _, _, _, x, _ => by cases x
  | .set _, _, _, x, _ => by cases x
  | .frozenset _, _, _, x, _ => by cases x
  | .obj _ _, _, _, x, _ => by cases x
theorem Dw.readsAll (hok : HOk P w H h) (KX : K.In h) : ∀ (ds : List WData) (vs : List V) (us : List Value), DwAll K H vs ds → Vals vs us → ∃ as, ReadsAllW R cl h us ds as
  | [], _, _, x, r => by
    cases x
    cases r
    exact ⟨_, ReadsAllW.nil⟩
  | d :: ds, _, _, x, r => by
    cases x with
    | cons h1 h2 =>
      cases r with
      | cons r1 r2 =>
        obtain ⟨as, q1⟩ := Dw.reads hok KX d _ _ h1 r1
        obtain ⟨bs, q2⟩ := Dw.readsAll hok KX ds _ _ h2 r2
        exact ⟨_, ReadsAllW.cons q1 q2⟩
end
end
mutual
def plW : WData → Bool
  | .none => true
  | .bool _ => true
  | .int _ => true
  | .str _ => true
  | .bytes _ => true
  | .list xs => plWs xs
  | .tuple xs => plWs xs
  | _ => false
def plWs : List WData → Bool
  | [] => true
  | x :: r => plW x && plWs r
end
theorem plWs_map {α : Type} {f : α → WData} (h : ∀ a, plW (f a) = true) : ∀ l : List α, plWs (l.map f) = true
  | [] => rfl
  | x :: r => by
    show (plW (f x) && plWs (r.map f)) = true
    rw [h x, plWs_map h r] <;> rfl
theorem pl_enc : ∀ (c : Codec) (a : c.denote), plW (c.enc a) = true
  | .unit, _ => rfl
  | .bool, _ => rfl
  | .int _ _, _ => rfl
  | .nat _ _, _ => rfl
  | .u8, _ => rfl
  | .bytes _ _, _ => rfl
  | .text _ _ _ _, _ => rfl
  | .list _ _ c, a => plWs_map (fun x => pl_enc c x) a
  | .pair c d, a => by
    show (plW (c.enc a.1) && (plW (d.enc a.2) && true)) = true
    rw [pl_enc c a.1, pl_enc d a.2] <;> rfl
  | .triple c d e, a => by
    show (plW (c.enc a.1) && (plW (d.enc a.2.1) && (plW (e.enc a.2.2) && true))) = true
    rw [pl_enc c a.1, pl_enc d a.2.1, pl_enc e a.2.2] <;> rfl
  | .option c, none => rfl
  | .option c, some x => pl_enc c x
theorem pl_encAll : ∀ (cs : List Codec) (a : Codec.denoteAll cs), plWs (Codec.encAll cs a) = true
  | [], _ => rfl
  | c :: cs, a => by
    show (plW (c.enc a.1) && plWs (Codec.encAll cs a.2)) = true
    rw [pl_enc c a.1, pl_encAll cs a.2] <;> rfl
theorem weight_mem : ∀ {xs : List WData} {d : WData}, d ∈ xs → d.weight ≤ WData.weightAll xs
  | [], d, h => absurd h (by simp)
  | x :: r, d, h => by
    show d.weight ≤ x.weight + 1 + WData.weightAll r
    rcases List.mem_cons.mp h with e | m
    · rw [e]
      omega
    · have z := weight_mem m
      omega
def toV : Value → V
  | .none => .non
  | .bool b => .bl b
  | .int i _ => .int i
  | .str x _ => .str x
  | .bytes b _ => .byt b
  | .ref a => .ref a
  | _ => .non
def OkU (A : List Addr) : Value → Prop
  | .none => True
  | .bool _ => True
  | .int _ _ => True
  | .str _ _ => True
  | .bytes _ _ => True
  | .ref a => a ∈ A
  | _ => False
theorem OkU.mono {A B : List Addr} (h : ∀ a ∈ A, a ∈ B) : ∀ {u : Value}, OkU A u → OkU B u := fun {u} x => by
  cases u with
  | ref a => exact h a x
  | none => trivial
  | bool b => trivial
  | int i t => trivial
  | str s t => trivial
  | bytes b t => trivial
  | _ => exact False.elim x
theorem relV_toV {A : List Addr} {u : Value} (x : OkU A u) : RelV (toV u) u := by
  cases u with
  | ref a => rfl
  | none => rfl
  | bool b => rfl
  | int i t => exact ⟨t, rfl⟩
  | str s t => exact ⟨t, rfl⟩
  | bytes b t => exact ⟨t, rfl⟩
  | _ => exact False.elim x
theorem vals_toV {A : List Addr} : ∀ {vs : List Value}, (∀ u ∈ vs, OkU A u) → Vals (vs.map toV) vs
  | [], _ => .nil
  | u :: r, h => .cons (relV_toV (h u (List.mem_cons_self ..))) (vals_toV fun x hx => h x (List.mem_cons_of_mem _ hx))
def ArgOb (h : Heap) (A : List Addr) (a : Addr) : Prop := ∃ vs : List Value, vs.length ≤ sizeLine ∧ (∀ u ∈ vs, OkU A u) ∧
  (h.get? a = some { cls := .type "list", data := .seq vs.toArray } ∨ h.get? a = some { cls := .type "tuple", data := .seq vs.toArray })
theorem ArgOb.mono {h : Heap} {A B : List Addr} {a : Addr} (k : ∀ a ∈ A, a ∈ B) (x : ArgOb h A a) : ArgOb h B a := by
  obtain ⟨vs, h1, h2, h3⟩ := x
  exact ⟨vs, h1, fun u hu => (h2 u hu).mono k, h3⟩
theorem wellAll_len {P : Params} {h : Heap} : ∀ {vs : List Value} {ds : List WData}, WellAll P h vs ds → vs.length = ds.length
  | _, _, .nil => rfl
  | _, _, .cons _ b => by
    show _ + 1 = _ + 1
    rw [wellAll_len b]
theorem well_list {P : Params} {h : Heap} {v : Value} {ds : List WData} (x : Well P h v (.list ds)) : ∃ (a : Addr) (vs : List Value), v = .ref a ∧ h.get? a = some { cls := .type "list", data := .seq vs.toArray } ∧ WellAll P h vs ds := by
  cases x with
  | list ho hall => exact ⟨_, _, rfl, ho, hall⟩
theorem well_tuple {P : Params} {h : Heap} {v : Value} {ds : List WData} (x : Well P h v (.tuple ds)) : ∃ (a : Addr) (vs : List Value), v = .ref a ∧ h.get? a = some { cls := .type "tuple", data := .seq vs.toArray } ∧ WellAll P h vs ds := by
  cases x with
  | tuple ho hall => exact ⟨_, _, rfl, ho, hall⟩
theorem well_cons {P : Params} {h : Heap} {us : List Value} {d : WData} {ds : List WData} (x : WellAll P h us (d :: ds)) : ∃ (v : Value) (vs : List Value), us = v :: vs ∧ Well P h v d ∧ WellAll P h vs ds := by
  cases x with
  | cons a b => exact ⟨_, _, rfl, a, b⟩
theorem line_of {n : Nat} (h : n ≤ 1048576) : n ≤ sizeLine := Nat.le_trans h (by decide)
section
variable {P : Params} {h : Heap}
mutual
theorem area_one : ∀ (d : WData) (v : Value), Well P h v d → plW d = true → d.weight ≤ 1048576 → ∃ A : List Addr, OkU A v ∧ ∀ a ∈ A, ArgOb h A a
  | .none, _, x, _, _ => by
    cases x
    exact ⟨[], trivial, fun a m => absurd m (by simp)⟩
  | .bool b, _, x, _, _ => by
    cases x
    exact ⟨[], trivial, fun a m => absurd m (by simp)⟩
  | .int i, _, x, _, _ => by
    cases x
    exact ⟨[], trivial, fun a m => absurd m (by simp)⟩
  | .str s, _, x, _, _ => by
    cases x
    exact ⟨[], trivial, fun a m => absurd m (by simp)⟩
  | .bytes b, _, x, _, _ => by
    cases x
    exact ⟨[], trivial, fun a m => absurd m (by simp)⟩
  | .list ds, _, x, p, z => by
    obtain ⟨a, vs, rfl, ho, hall⟩ := well_list x
    have z2 : WData.weightAll ds ≤ 1048576 := z
    obtain ⟨A, h1, h2⟩ := area_all ds _ hall p fun d hd => Nat.le_trans (weight_mem hd) z2
    have k : ∀ b ∈ A, b ∈ a :: A := fun b hb => List.mem_cons_of_mem _ hb
    refine ⟨a :: A, List.mem_cons_self .., fun b hb => ?_⟩
    rcases List.mem_cons.mp hb with e | m
    · rw [e]
      exact ⟨vs, line_of (by rw [wellAll_len hall]; exact Nat.le_trans (PySem.W.length_le_weightAllW ds) z2), fun u hu => (h1 u hu).mono k, .inl ho⟩
    · exact (h2 b m).mono k
  | .tuple ds, _, x, p, z => by
    obtain ⟨a, vs, rfl, ho, hall⟩ := well_tuple x
    have z2 : WData.weightAll ds ≤ 1048576 := z
    obtain ⟨A, h1, h2⟩ := area_all ds _ hall p fun d hd => Nat.le_trans (weight_mem hd) z2
    have k : ∀ b ∈ A, b ∈ a :: A := fun b hb => List.mem_cons_of_mem _ hb
    refine ⟨a :: A, List.mem_cons_self .., fun b hb => ?_⟩
    rcases List.mem_cons.mp hb with e | m
    · rw [e]
      exact ⟨vs, line_of (by rw [wellAll_len hall]; exact Nat.le_trans (PySem.W.length_le_weightAllW ds) z2), fun u hu => (h1 u hu).mono k, .inr ho⟩
    · exact (h2 b m).mono k
  | .float _, _, _, p, _ => Bool.noConfusion (show false = true from p)
  | .dict _, _, _, p, _ => Bool.noConfusion (show false = true from p)
  | .bytearray _, _, _, p, _ => Bool.noConfusion (show false = true from p)
  | .set _, _, _, p, _ => Bool.noConfusion (show false = true from p)
  | .frozenset _, _, _, p, _ => Bool.noConfusion (show false = true from p)
  | .obj _ _, _, _, p, _ => Bool.noConfusion (show false = true from p)
theorem area_all : ∀ (ds : List WData) (vs : List Value), WellAll P h vs ds → plWs ds = true → (∀ d ∈ ds, d.weight ≤ 1048576) → ∃ A : List Addr, (∀ u ∈ vs, OkU A u) ∧ ∀ a ∈ A, ArgOb h A a
  | [], _, x, _, _ => by
    cases x
    exact ⟨[], fun u m => absurd m (by simp), fun a m => absurd m (by simp)⟩
  | d :: ds, _, x, p, z => by
    obtain ⟨v, vs, rfl, x1, x2⟩ := well_cons x
    have q : plW d = true ∧ plWs ds = true := Bool.and_eq_true_iff.mp p
    obtain ⟨A, a1, a2⟩ := area_one d v x1 q.1 (z d (List.mem_cons_self ..))
    obtain ⟨B, b1, b2⟩ := area_all ds vs x2 q.2 fun e he => z e (List.mem_cons_of_mem _ he)
    have kA : ∀ b ∈ A, b ∈ A ++ B := fun b hb => List.mem_append.mpr (.inl hb)
    have kB : ∀ b ∈ B, b ∈ A ++ B := fun b hb => List.mem_append.mpr (.inr hb)
    refine ⟨A ++ B, fun u hu => ?_, fun b hb => ?_⟩
    · rcases List.mem_cons.mp hu with e | m
      · rw [e]
        exact a1.mono kA
      · exact (b1 u m).mono kB
    · rcases List.mem_append.mp hb with m | m
      · exact (a2 b m).mono kA
      · exact (b2 b m).mono kB
end
end
def hoOf (o : Obj) : Option HO := match o.data with
  | .seq vs _ => if (o.cls == Value.type "list") = true then some (.frz o (.lst (vs.toList.map toV))) else some (.frz o (.tup (vs.toList.map toV)))
  | _ => none
def argH (K : PySem.W.Frag) (h : Heap) (A : List Addr) : Hp := fun b => if b ∈ A then (if (K.lookup b).isNone = true then (h.get? b).bind hoOf else none) else none
def OnlyF (H : Hp) : Prop := ∀ b, H b = none ∨ ∃ o u, H b = some (.frz o u)
theorem hoOf_lst (vs : List Value) : hoOf { cls := .type "list", data := .seq vs.toArray } = some (.frz { cls := .type "list", data := .seq vs.toArray } (.lst (vs.map toV))) := by
  show (if (Value.type "list" == Value.type "list") = true then some (HO.frz { cls := .type "list", data := .seq vs.toArray } (.lst (vs.toArray.toList.map toV))) else some (HO.frz { cls := .type "list", data := .seq vs.toArray } (.tup (vs.toArray.toList.map toV)))) = _
  rw [if_pos (beq_self_eq_true _)]
theorem hoOf_tup (vs : List Value) : hoOf { cls := .type "tuple", data := .seq vs.toArray } = some (.frz { cls := .type "tuple", data := .seq vs.toArray } (.tup (vs.map toV))) := by
  show (if (Value.type "tuple" == Value.type "list") = true then some (HO.frz { cls := .type "tuple", data := .seq vs.toArray } (.lst (vs.toArray.toList.map toV))) else some (HO.frz { cls := .type "tuple", data := .seq vs.toArray } (.tup (vs.toArray.toList.map toV)))) = _
  rw [if_neg (by decide)]
section
variable {P : Program} {w : World} {K : PySem.W.Frag} {h : Heap} {A : List Addr}
theorem argH_at {b : Addr} {o : Obj} (hb : b ∈ A) (hk : K.lookup b = none) (e : h.get? b = some o) : argH K h A b = hoOf o := by
  unfold argH
  rw [if_pos hb, hk, if_pos (show (none : Option Obj).isNone = true from rfl), e] <;> rfl
theorem of_argH {b : Addr} {u : HO} (q : argH K h A b = some u) : b ∈ A ∧ K.lookup b = none := by
  unfold argH at q
  by_cases hb : b ∈ A
  · rw [if_pos hb] at q
    cases hk : K.lookup b with
    | none => exact ⟨hb, rfl⟩
    | some o =>
      rw [hk, if_neg (by simp)] at q
      cases q
  · rw [if_neg hb] at q
    cases q
theorem argH_is (ar : ∀ a ∈ A, ArgOb h A a) {b : Addr} {u : HO} (q : argH K h A b = some u) : K.lookup b = none ∧ ∃ vs : List Value, vs.length ≤ sizeLine ∧ (∀ u ∈ vs, OkU A u) ∧
    ((h.get? b = some { cls := .type "list", data := .seq vs.toArray } ∧ u = .frz { cls := .type "list", data := .seq vs.toArray } (.lst (vs.map toV))) ∨
     (h.get? b = some { cls := .type "tuple", data := .seq vs.toArray } ∧ u = .frz { cls := .type "tuple", data := .seq vs.toArray } (.tup (vs.map toV)))) := by
  obtain ⟨hb, hk⟩ := of_argH q
  obtain ⟨vs, h1, h2, h3⟩ := ar b hb
  refine ⟨hk, vs, h1, h2, ?_⟩
  rcases h3 with e | e
  · rw [argH_at hb hk e, hoOf_lst] at q
    exact .inl ⟨e, (Option.some.inj q).symm⟩
  · rw [argH_at hb hk e, hoOf_tup] at q
    exact .inr ⟨e, (Option.some.inj q).symm⟩
theorem argH_only (ar : ∀ a ∈ A, ArgOb h A a) : OnlyF (argH K h A) := fun b => by
  cases q : argH K h A b with
  | none => exact .inl rfl
  | some u =>
    obtain ⟨_, vs, _, _, ⟨_, e⟩ | ⟨_, e⟩⟩ := argH_is ar q
    · exact .inr ⟨_, _, by rw [e]⟩
    · exact .inr ⟨_, _, by rw [e]⟩
theorem argH_ok (ar : ∀ a ∈ A, ArgOb h A a) : HOk P w (argH K h A) h := fun b u q => by
  obtain ⟨_, vs, h1, h2, ⟨e, rfl⟩ | ⟨e, rfl⟩⟩ := argH_is ar q
  · exact ⟨e, by rw [List.length_map]; exact h1, vs, _, vals_toV h2, e⟩
  · exact ⟨e, by rw [List.length_map]; exact h1, vs, vals_toV h2, _, e, rfl, _, rfl⟩
theorem seq_inj {c c' : Value} {vs us : List Value} (e : (some { cls := c, data := .seq vs.toArray } : Option Obj) = some { cls := c', data := .seq us.toArray }) : c = c' ∧ vs = us := by
  have e1 := Option.some.inj e
  have e2 : c = c' := congrArg Obj.cls e1
  have e3 : Data.seq vs.toArray = Data.seq us.toArray := congrArg Obj.data e1
  injection e3 with e4
  refine ⟨e2, ?_⟩
  have e5 := congrArg Array.toList e4
  simpa using e5
theorem argL (KX : K.In h) (ar : ∀ a ∈ A, ArgOb h A a) {a : Addr} {vs : List Value} (ha : a ∈ A) (e : h.get? a = some { cls := .type "list", data := .seq vs.toArray }) : (∀ u ∈ vs, OkU A u) ∧ SqL K (argH K h A) a (vs.map toV) := by
  obtain ⟨us, h1, h2, h3⟩ := ar a ha
  have hu : us = vs := by
    rcases h3 with q | q
    · rw [e] at q
      exact (seq_inj q).2.symm
    · rw [e] at q
      exact absurd (Value.type.inj (seq_inj q).1) (by decide)
  subst hu
  refine ⟨h2, ?_⟩
  cases hk : K.lookup a with
  | none => exact .inl (.inr ⟨_, by rw [argH_at ha hk e, hoOf_lst]⟩)
  | some o =>
    have e2 := KX a o hk
    rw [e] at e2
    obtain rfl := Option.some.inj e2
    exact .inr ⟨_, us.toArray, _, hk, rfl, rfl, rfl, by rw [List.size_toArray]; exact h1, by simpa using vals_toV h2⟩
theorem argT (KX : K.In h) (ar : ∀ a ∈ A, ArgOb h A a) {a : Addr} {vs : List Value} (ha : a ∈ A) (e : h.get? a = some { cls := .type "tuple", data := .seq vs.toArray }) : (∀ u ∈ vs, OkU A u) ∧ SqT K (argH K h A) a (vs.map toV) := by
  obtain ⟨us, h1, h2, h3⟩ := ar a ha
  have hu : us = vs := by
    rcases h3 with q | q
    · rw [e] at q
      exact absurd (Value.type.inj (seq_inj q).1) (by decide)
    · rw [e] at q
      exact (seq_inj q).2.symm
  subst hu
  refine ⟨h2, ?_⟩
  cases hk : K.lookup a with
  | none => exact .inl (.inr ⟨_, by rw [argH_at ha hk e, hoOf_tup]⟩)
  | some o =>
    have e2 := KX a o hk
    rw [e] at e2
    obtain rfl := Option.some.inj e2
    exact .inr ⟨_, us.toArray, _, hk, rfl, rfl, by rw [List.size_toArray]; exact h1, by simpa using vals_toV h2⟩
mutual
theorem dw_one {Pm : Params} (KX : K.In h) (ar : ∀ a ∈ A, ArgOb h A a) : ∀ (d : WData) (v : Value), Well Pm h v d → plW d = true → OkU A v → Dw K (argH K h A) (toV v) d
  | .none, _, x, _, _ => by
    cases x
    exact .non
  | .bool b, _, x, _, _ => by
    cases x
    exact .bl b
  | .int i, _, x, _, _ => by
    cases x
    exact .int i
  | .str s, _, x, _, _ => by
    cases x
    exact .str s
  | .bytes b, _, x, _, _ => by
    cases x
    have z := Dw.byt (K := K) (H := argH K h A) b.toArray
    exact z
  | .list ds, _, x, p, hu => by
    obtain ⟨a, vs, rfl, ho, hall⟩ := well_list x
    obtain ⟨h2, hs⟩ := argL KX ar hu ho
    exact .lst hs (dw_all KX ar ds _ hall p h2)
  | .tuple ds, _, x, p, hu => by
    obtain ⟨a, vs, rfl, ho, hall⟩ := well_tuple x
    obtain ⟨h2, hs⟩ := argT KX ar hu ho
    exact .tup hs (dw_all KX ar ds _ hall p h2)
  | .float _, _, _, p, _ => Bool.noConfusion (show false = true from p)
  | .dict _, _, _, p, _ => Bool.noConfusion (show false = true from p)
  | .bytearray _, _, _, p, _ => Bool.noConfusion (show false = true from p)
  | .set _, _, _, p, _ => Bool.noConfusion (show false = true from p)
  | .frozenset _, _, _, p, _ => Bool.noConfusion (show false = true from p)
  | .obj _ _, _, _, p, _ => Bool.noConfusion (show false = true from p)
theorem dw_all {Pm : Params} (KX : K.In h) (ar : ∀ a ∈ A, ArgOb h A a) : ∀ (ds : List WData) (vs : List Value), WellAll Pm h vs ds → plWs ds = true → (∀ u ∈ vs, OkU A u) → DwAll K (argH K h A) (vs.map toV) ds
  | [], _, x, _, _ => by
    cases x
    exact .nil
  | d :: ds, _, x, p, hu => by
    obtain ⟨v, vs, rfl, x1, x2⟩ := well_cons x
    have q : plW d = true ∧ plWs ds = true := Bool.and_eq_true_iff.mp p
    exact .cons (dw_one KX ar d v x1 q.1 (hu _ (List.mem_cons_self ..))) (dw_all KX ar ds vs x2 q.2 fun u m => hu u (List.mem_cons_of_mem _ m))
end
end
theorem spec_call {P : Program} {w : World} {K : PySem.W.Frag} {mg mb : Str → Option Value} {CX : CXT} {k : Nat} {fa : Addr} {fd : FuncData} {ps : List Str} {sp : Sp} {s₁ : Shared} {vals : List Value} {ds : List WData} {R : PySem.W.WRecords} {cl : Str → Option Addr} {d0 : WData}
    (KX : K.In s₁.heap) (hns : s₁.heap.Ns mainGlobals mg) (hb : s₁.heap.Ns builtinsNs mb) (hbb : ∀ x : Str, x ≠ "__name__" → mb x = bootBuiltins x) (hlim : s₁.heap.NoLimit) (hg : s₁.gens = #[])
    (hwl : WellAll w.params s₁.heap vals ds) (hpl : plWs ds = true) (hwt : ∀ d ∈ ds, d.weight ≤ 1048576) (hr : Room k callerA)
    (F : ∀ base : Heap, K.In base → base.Ns mainGlobals mg → FnOk P w K mg base CX k fa fd ps sp) (hbind : ∀ (s : Shared) (us : List Value), us.length = ps.length → BindsTo s fd ⟨us, []⟩ (ps.zip us)) (hlen : ds.length = ps.length)
    (hsp : ∀ (H : Hp) (xs : List V), OnlyF H → DwAll K H xs ds → sp xs H (fun v H' => Dw K H' v d0) fun _ _ _ => False)
    (hCX : ∀ H e s', CX [] H s₁ (fun _ _ _ => False) e s' → False) :
    codeAny (model P w) callerA (.call (.ref fa) ⟨vals, []⟩) (fun r s' => ∃ u as, r = .ok (.ret u) ∧ ReadsW R cl s'.heap u d0 as ∧ OldK s₁.heap s'.heap ∧ s'.os = s₁.os ∧ AllBare s'.gens) s₁ := by
  obtain ⟨A, ho, ar⟩ := area_all ds vals hwl hpl hwt
  have hO : OnlyF (argH K s₁.heap A) := argH_only ar
  have hok : HOk P w (argH K s₁.heap A) s₁.heap := argH_ok ar
  have hS := dw_all KX ar ds vals hwl hpl ho
  have hV := vals_toV ho
  have hK : ∀ b u, argH K s₁.heap A b = some u → K.lookup b = none := fun b u q => (argH_is ar q).1
  have noA : ∀ {b : Addr} {o : Obj} {es : Array DictEntry} {ep : Nat}, s₁.heap.get? b = some o → o.data = .dict es ep → argH K s₁.heap A b = none := fun {b o es ep} e d => by
    cases q : argH K s₁.heap A b with
    | none => rfl
    | some u =>
      obtain ⟨_, vs, _, _, ⟨e2, _⟩ | ⟨e2, _⟩⟩ := argH_is ar q
      · rw [e2] at e
        cases e
        have d' : Data.seq vs.toArray _ = Data.dict es ep := d
        cases d'
      · rw [e2] at e
        cases e
        have d' : Data.seq vs.toArray _ = Data.dict es ep := d
        cases d'
  generalize argH K s₁.heap A = H at hO hok hS hK noA
  have base_of : ∀ {b : Addr} {o : Obj}, s₁.heap.get? b = some o → H b = none → (hidT s₁.heap H).get? b = some o := fun e n => hidT_get e n
  have nsK : ∀ {b : Addr} {m : Str → Option Value}, s₁.heap.Ns b m → (hidT s₁.heap H).Ns b m := fun {b m} ⟨o, es, ep, e, d, r⟩ => ⟨o, es, ep, base_of e (noA e d), d, r⟩
  have nK : ∀ b o, K.lookup b = some o → H b = none := fun b o e => by
    cases q : H b with
    | none => rfl
    | some u =>
      rw [hK b u q] at e
      cases e
  have hKb : K.In (hidT s₁.heap H) := fun b o e => base_of (KX b o e) (nK b o e)
  have hM : Mod K mg (hidT s₁.heap H) := ⟨hKb, nsK hns, ⟨mb, nsK hb, hbb⟩, let ⟨mc, h1, h2⟩ := hlim; ⟨mc, nsK h1, h2⟩⟩
  have e0 : Env0 P w K mg (hidT s₁.heap H) callerA [] s₁ H := ⟨rfl, hM, fun b o e => of_hidT e, Nat.le_of_eq (hidT_size _ _), trivial, fun b hb => absurd (show b ∈ ([] : List Addr) from hb) (by simp), hok, .of_eq hg⟩
  have hl : vals.length = ps.length := by rw [wellAll_len hwl]; exact hlen
  refine codeAny_mono ((F _ hKb (nsK hns)).run callerA [] s₁ H ⟨vals, []⟩ vals (vals.map toV) _ _ hr e0 (hbind s₁ vals hl) hV (hsp H _ hO hS)) fun r s' x => ?_
  cases r with
  | error e => exact (hCX H e s' x).elim
  | ok fl =>
    cases fl with
    | next => exact False.elim x
    | brk => exact False.elim x
    | cont => exact False.elim x
    | ret u =>
      obtain ⟨v, H', os, bare, un, hok', r', q⟩ := x
      have kept : ∀ b o, s₁.heap.get? b = some o → s'.heap.get? b = some o := fun b o e => by
        cases q2 : H b with
        | none => exact un.keep b o e q2 (by intro z; exact absurd (show b ∈ ([] : List Addr) from z) (by simp)) (by simp)
        | some u2 =>
          rcases hO b with z | ⟨ob, u3, z⟩
          · rw [q2] at z
            cases z
          · have z2 := un.frzs b ob _ z
            obtain ⟨e1, _⟩ := hok b _ z
            obtain ⟨e2, _⟩ := hok' b _ z2
            rw [e] at e1
            cases e1
            exact e2
      have KX' : K.In s'.heap := fun b o e => kept b o (KX b o e)
      obtain ⟨as, hrd⟩ := Dw.reads (R := R) (cl := cl) hok' KX' d0 v u q r'
      exact ⟨u, as, rfl, hrd, OldK.of_keep kept, os, bare⟩
theorem layable_weight {ds : List WData} (h : WData.layableAll ds = true) : ∀ d ∈ ds, d.weight ≤ 1048576 := fun d hd =>
  (PySem.W.layableW_iff.mp (List.all_eq_true.mp h d hd)).2.2
theorem encAll_len : ∀ (cs : List Codec) (a : Codec.denoteAll cs), (Codec.encAll cs a).length = cs.length
  | [], _ => rfl
  | c :: cs, a => by
    show (Codec.encAll cs a.2).length + 1 = cs.length + 1
    rw [encAll_len cs a.2]
theorem walk_spec {r : OpenSpec} {k : Nat} {q : Program} {loose : List Str} {XP : (Str → Option Value) → Heap → Prop} {YP : World → Heap → Prop} {d : DefRec} {K : Params → PySem.W.Frag} {CX : World → CXT} {ps : List Str} {sp : World → Sp}
    (hwell : r.wellSaid = true) (hdf : d.params.defaults = []) (hlen : r.args.length = ps.length) (hr : Room k callerA)
    (hY : ∀ (w : World) (h : Heap), YP w h → (K w.params).In h)
    (F : ∀ (w : World) (mg : Str → Option Value) (fa : Addr) (h : Heap), YP w h → (K w.params).In h → h.Ns mainGlobals mg → mg d.name = some (.ref fa) →
      ∃ fd : FuncData, (∀ (s : Shared) (us : List Value), us.length = ps.length → BindsTo s fd ⟨us, []⟩ (ps.zip us)) ∧
        ∀ base : Heap, (K w.params).In base → base.Ns mainGlobals mg → FnOk r.prog w (K w.params) mg base (CX w) k fa fd ps (sp w))
    (hsp : ∀ (w : World) (H : Hp) (xs : List V) (a : Codec.denoteAll r.args), OnlyF H → Codec.withinAll r.args a = true → Codec.app r.args r.asked a = true → DwAll (K w.params) H xs (Codec.encAll r.args a) →
      sp w xs H (fun v H' => Dw (K w.params) H' v (r.ret.enc (Codec.app r.args r.f a))) fun _ _ _ => False)
    (hCX : ∀ (w : World) (H : Hp) (s : Shared) (e : Value) (s' : Shared), CX w [] H s (fun _ _ _ => False) e s' → False) :
    PySem.W.WalkOS q loose XP YP r d [] (fun f vs => PySem.call f vs) := by
  intro w s_0 s₁ mg mb G Y fa o pm cd doc dV kV ho hd hcd hD hmg hg args vals as hpre hlay hrd hwl hlo
  obtain ⟨a, e1, e2⟩ := PySem.W.os_pre_some hpre
  obtain ⟨e3, hwi⟩ := Codec.encAll_of_decAll r.args args a e1
  subst e3
  have KX := hY w _ Y
  obtain ⟨fd, hb, hF⟩ := F w mg fa _ Y KX G.T.g hmg
  refine PySem.W.enter_call (codeAny_mono (spec_call (R := []) (cl := classAt s_0.heap) (d0 := r.ret.enc (Codec.app r.args r.f a)) KX G.T.g G.T.b G.T.builtins G.T.nolimit hg hwl (pl_encAll _ _) (layable_weight hlay) hr hF hb (by rw [encAll_len]; exact hlen)
    (fun H xs hO hS => hsp w H xs a hO hwi e2 hS) fun H e s' => hCX w H s₁ e s') fun r' s' hq => ?_)
  obtain ⟨u, as', rfl, h1, h2, h3, h4⟩ := hq
  exact ⟨.inl ⟨u, _, as', rfl, fun _ => rfl, h1, (OpenSpec.post_iff hwell hwi _ _).mpr rfl, fun z => Bool.noConfusion (show false = true from z)⟩, h2, h3, h4⟩
theorem walk_specK {r : OpenSpec} {k : Nat} {q : Program} {loose : List Str} {XP : (Str → Option Value) → Heap → Prop} {YP : World → Heap → Prop} {d : DefRec} {K : Params → PySem.W.Frag} {CX : CXT} {ps : List Str} {sp : PySem.W.Frag → Sp}
    (hwell : r.wellSaid = true) (hdf : d.params.defaults = []) (hlen : r.args.length = ps.length) (hr : Room k callerA)
    (hY : ∀ (w : World) (h : Heap), YP w h → (K w.params).In h)
    (F : ∀ (w : World) (mg : Str → Option Value) (fa : Addr) (h : Heap), YP w h → (K w.params).In h → h.Ns mainGlobals mg → mg d.name = some (.ref fa) →
      ∃ fd : FuncData, (∀ (s : Shared) (us : List Value), us.length = ps.length → BindsTo s fd ⟨us, []⟩ (ps.zip us)) ∧
        ∀ base : Heap, (K w.params).In base → base.Ns mainGlobals mg → FnOk r.prog w (K w.params) mg base CX k fa fd ps (sp (K w.params)))
    (hsp : ∀ (K : PySem.W.Frag) (H : Hp) (xs : List V) (a : Codec.denoteAll r.args), OnlyF H → Codec.withinAll r.args a = true → Codec.app r.args r.asked a = true → DwAll K H xs (Codec.encAll r.args a) →
      sp K xs H (fun v H' => Dw K H' v (r.ret.enc (Codec.app r.args r.f a))) fun _ _ _ => False)
    (hCX : ∀ (H : Hp) (s : Shared) (e : Value) (s' : Shared), CX [] H s (fun _ _ _ => False) e s' → False) :
    PySem.W.WalkOS q loose XP YP r d [] (fun f vs => PySem.call f vs) :=
  walk_spec (K := K) (CX := fun _ => CX) (sp := fun w => sp (K w.params)) hwell hdf hlen hr hY F (fun w H xs a h1 h2 h3 h4 => hsp (K w.params) H xs a h1 h2 h3 h4) fun _ H s e s' => hCX H s e s'
end L2
end
namespace S
open PySem PySem.Spec PyProof.Rows L2
theorem def_mk {K : PySem.W.Frag} {h : Heap} {mg : Str → Option Value} {x : Str} {st : Stmt} {f : Addr} {oc : Value} {od an : Option Addr} {osl : Array (Option Value)} {kV doc pm cdv ct : Value} (X : K.In h) (G : h.Ns mainGlobals mg) (a : PySem.W.nsIn K mainGlobals x = some (some (.ref f)))
    (l : K.lookup f = some ⟨oc, od, .func (PySem.W.fnOf x x (defArgs st) (defBody st) (defScope st) .none kV doc pm an cdv ct), osl⟩) (c : PySem.W.codeIn K cdv x = true) (k : PySem.W.keepIn K (.ref f) = true) : Def K mg x st :=
  ⟨f, _, fun_mk l c k, PySem.W.mg_of X G a⟩
theorem mdef_mk {K : PySem.W.Frag} {C : Addr} {m qual : Str} {st : Stmt} {f : Addr} {oc : Value} {od an : Option Addr} {osl : Array (Option Value)} {kV doc pm cdv ct : Value} (a : PySem.W.findIn K (.ref C) m = some (some (.ref f))) (i : PySem.W.isFn K (.ref f) = true)
    (l : K.lookup f = some ⟨oc, od, .func (PySem.W.fnOf m qual (defArgs st) (defBody st) (defScope st) .none kV doc pm an cdv ct), osl⟩) (c : PySem.W.codeIn K cdv qual = true) (k : PySem.W.keepIn K (.ref f) = true) : MDef K C m qual st :=
  ⟨f, _, fun_mk l c k, ⟨a, i, k⟩⟩
theorem glb_mk {K : PySem.W.Frag} {h : Heap} {mg : Str → Option Value} {t_P t_LOW_255_BITS t_KEPT_OF_KEY t_BIT_254 t_KEY_SIZE t_UNFIT t_IS_BROKEN t_NOT_NOW t_TOO_MUCH t_MASK t_KEPT_OF_R t_TAG_PRIME t_TAG_SIZE t_NONCE_SIZE t_BLOCK_SIZE t_MESSAGE_SIZE t_DATA_KIND t_KEY_KIND t_END_KIND t_HEAD_SIZE t_MOST_DATA t_BESIDES_DATA t_MOST_REST t_NEXT_KEY t_NOT_OPENED t_WAITING t_SEALED t_BROKEN t_MOST_EVERY t_MOST_BYTES t_MOST_HELD t_FIRST_SENDS t_SECOND_SENDS t_MOST_SEALED t_BEGIN : Tok} (X : K.In h) (N : h.Ns mainGlobals mg) (h_len : PySem.W.nsIn K mainGlobals "len" = some none) (h_range : PySem.W.nsIn K mainGlobals "range" = some none) (h_reversed : PySem.W.nsIn K mainGlobals "reversed" = some none) (h_zip : PySem.W.nsIn K mainGlobals "zip" = some none) (h_list : PySem.W.nsIn K mainGlobals "list" = some none) (h_max : PySem.W.nsIn K mainGlobals "max" = some none) (h_all : PySem.W.nsIn K mainGlobals "all" = some none) (h_ord : PySem.W.nsIn K mainGlobals "ord" = some none) (h_P : PySem.W.nsIn K mainGlobals "P" = some (some (.int 57896044618658097711785492504343953926634992332820282019728792003956564819949 t_P))) (h_LOW_255_BITS : PySem.W.nsIn K mainGlobals "LOW_255_BITS" = some (some (.int 57896044618658097711785492504343953926634992332820282019728792003956564819967 t_LOW_255_BITS))) (h_KEPT_OF_KEY : PySem.W.nsIn K mainGlobals "KEPT_OF_KEY" = some (some (.int 28948022309329048855892746252171976963317496166410141009864396001978282409976 t_KEPT_OF_KEY))) (h_BIT_254 : PySem.W.nsIn K mainGlobals "BIT_254" = some (some (.int 28948022309329048855892746252171976963317496166410141009864396001978282409984 t_BIT_254))) (h_KEY_SIZE : PySem.W.nsIn K mainGlobals "KEY_SIZE" = some (some (.int 32 t_KEY_SIZE))) (h_UNFIT : PySem.W.nsIn K mainGlobals "UNFIT" = some (some (.int (-1) t_UNFIT))) (h_IS_BROKEN : PySem.W.nsIn K mainGlobals "IS_BROKEN" = some (some (.int (-3) t_IS_BROKEN))) (h_NOT_NOW : PySem.W.nsIn K mainGlobals "NOT_NOW" = some (some (.int (-4) t_NOT_NOW))) (h_TOO_MUCH : PySem.W.nsIn K mainGlobals "TOO_MUCH" = some (some (.int (-5) t_TOO_MUCH))) (h_MASK : PySem.W.nsIn K mainGlobals "MASK" = some (some (.int 4294967295 t_MASK))) (h_KEPT_OF_R : PySem.W.nsIn K mainGlobals "KEPT_OF_R" = some (some (.int 21267647620597763993911028882763415551 t_KEPT_OF_R))) (h_TAG_PRIME : PySem.W.nsIn K mainGlobals "TAG_PRIME" = some (some (.int 1361129467683753853853498429727072845819 t_TAG_PRIME))) (h_TAG_SIZE : PySem.W.nsIn K mainGlobals "TAG_SIZE" = some (some (.int 16 t_TAG_SIZE))) (h_NONCE_SIZE : PySem.W.nsIn K mainGlobals "NONCE_SIZE" = some (some (.int 12 t_NONCE_SIZE))) (h_BLOCK_SIZE : PySem.W.nsIn K mainGlobals "BLOCK_SIZE" = some (some (.int 64 t_BLOCK_SIZE))) (h_MESSAGE_SIZE : PySem.W.nsIn K mainGlobals "MESSAGE_SIZE" = some (some (.int 48 t_MESSAGE_SIZE))) (h_DATA_KIND : PySem.W.nsIn K mainGlobals "DATA_KIND" = some (some (.int 0 t_DATA_KIND))) (h_KEY_KIND : PySem.W.nsIn K mainGlobals "KEY_KIND" = some (some (.int 1 t_KEY_KIND))) (h_END_KIND : PySem.W.nsIn K mainGlobals "END_KIND" = some (some (.int 2 t_END_KIND))) (h_HEAD_SIZE : PySem.W.nsIn K mainGlobals "HEAD_SIZE" = some (some (.int 2 t_HEAD_SIZE))) (h_MOST_DATA : PySem.W.nsIn K mainGlobals "MOST_DATA" = some (some (.int 16384 t_MOST_DATA))) (h_BESIDES_DATA : PySem.W.nsIn K mainGlobals "BESIDES_DATA" = some (some (.int 17 t_BESIDES_DATA))) (h_MOST_REST : PySem.W.nsIn K mainGlobals "MOST_REST" = some (some (.int 16401 t_MOST_REST))) (h_NEXT_KEY : PySem.W.nsIn K mainGlobals "NEXT_KEY" = some (some (.int 3 t_NEXT_KEY))) (h_NOT_OPENED : PySem.W.nsIn K mainGlobals "NOT_OPENED" = some (some (.int 0 t_NOT_OPENED))) (h_WAITING : PySem.W.nsIn K mainGlobals "WAITING" = some (some (.int 1 t_WAITING))) (h_SEALED : PySem.W.nsIn K mainGlobals "SEALED" = some (some (.int 2 t_SEALED))) (h_BROKEN : PySem.W.nsIn K mainGlobals "BROKEN" = some (some (.int 3 t_BROKEN))) (h_MOST_EVERY : PySem.W.nsIn K mainGlobals "MOST_EVERY" = some (some (.int 1000000 t_MOST_EVERY))) (h_MOST_BYTES : PySem.W.nsIn K mainGlobals "MOST_BYTES" = some (some (.int 65536 t_MOST_BYTES))) (h_MOST_HELD : PySem.W.nsIn K mainGlobals "MOST_HELD" = some (some (.int 262144 t_MOST_HELD))) (h_FIRST_SENDS : PySem.W.nsIn K mainGlobals "FIRST_SENDS" = some (some (.int 1 t_FIRST_SENDS))) (h_SECOND_SENDS : PySem.W.nsIn K mainGlobals "SECOND_SENDS" = some (some (.int 2 t_SECOND_SENDS))) (h_MOST_SEALED : PySem.W.nsIn K mainGlobals "MOST_SEALED" = some (some (.int 65552 t_MOST_SEALED))) (h_BEGIN : PySem.W.nsIn K mainGlobals "BEGIN" = some (some (.str "sealed streams, one end to other" t_BEGIN))) : Glb mg :=
  ⟨PySem.W.mg_none_of X N h_len, PySem.W.mg_none_of X N h_range, PySem.W.mg_none_of X N h_reversed, PySem.W.mg_none_of X N h_zip, PySem.W.mg_none_of X N h_list, PySem.W.mg_none_of X N h_max, PySem.W.mg_none_of X N h_all, PySem.W.mg_none_of X N h_ord, ⟨_, PySem.W.mg_of X N h_P⟩, ⟨_, PySem.W.mg_of X N h_LOW_255_BITS⟩, ⟨_, PySem.W.mg_of X N h_KEPT_OF_KEY⟩, ⟨_, PySem.W.mg_of X N h_BIT_254⟩, ⟨_, PySem.W.mg_of X N h_KEY_SIZE⟩, ⟨_, PySem.W.mg_of X N h_UNFIT⟩, ⟨_, PySem.W.mg_of X N h_IS_BROKEN⟩, ⟨_, PySem.W.mg_of X N h_NOT_NOW⟩, ⟨_, PySem.W.mg_of X N h_TOO_MUCH⟩, ⟨_, PySem.W.mg_of X N h_MASK⟩, ⟨_, PySem.W.mg_of X N h_KEPT_OF_R⟩, ⟨_, PySem.W.mg_of X N h_TAG_PRIME⟩, ⟨_, PySem.W.mg_of X N h_TAG_SIZE⟩, ⟨_, PySem.W.mg_of X N h_NONCE_SIZE⟩, ⟨_, PySem.W.mg_of X N h_BLOCK_SIZE⟩, ⟨_, PySem.W.mg_of X N h_MESSAGE_SIZE⟩, ⟨_, PySem.W.mg_of X N h_DATA_KIND⟩, ⟨_, PySem.W.mg_of X N h_KEY_KIND⟩, ⟨_, PySem.W.mg_of X N h_END_KIND⟩, ⟨_, PySem.W.mg_of X N h_HEAD_SIZE⟩, ⟨_, PySem.W.mg_of X N h_MOST_DATA⟩, ⟨_, PySem.W.mg_of X N h_BESIDES_DATA⟩, ⟨_, PySem.W.mg_of X N h_MOST_REST⟩, ⟨_, PySem.W.mg_of X N h_NEXT_KEY⟩, ⟨_, PySem.W.mg_of X N h_NOT_OPENED⟩, ⟨_, PySem.W.mg_of X N h_WAITING⟩, ⟨_, PySem.W.mg_of X N h_SEALED⟩, ⟨_, PySem.W.mg_of X N h_BROKEN⟩, ⟨_, PySem.W.mg_of X N h_MOST_EVERY⟩, ⟨_, PySem.W.mg_of X N h_MOST_BYTES⟩, ⟨_, PySem.W.mg_of X N h_MOST_HELD⟩, ⟨_, PySem.W.mg_of X N h_FIRST_SENDS⟩, ⟨_, PySem.W.mg_of X N h_SECOND_SENDS⟩, ⟨_, PySem.W.mg_of X N h_MOST_SEALED⟩, ⟨_, PySem.W.mg_of X N h_BEGIN⟩⟩
theorem exc_mk {K : PySem.W.Frag} {mg : Str → Option Value} {cB : Addr} (b : mg "Broken" = some (.ref cB)) (e1 : PySem.W.excIn K cB [.type "Exception", .type "BaseException", .type "object"] "Exception.__new__" = true) (e2 : PySem.W.ktsIn K cB "BaseException" = true) : Exc K mg "Broken" cB :=
  ⟨b, ⟨_, _, _, _, PySem.F.excBase_Exception, e1⟩, e2⟩
theorem txt_mk {K : PySem.W.Frag} {mg : Str → Option Value} {cE cW cG cR cB : Addr} (exc : Exc K mg "Broken" cB) (pgE : PySem.W.plainGet K cE Str.empty = true) (hdE : PySem.W.hasDictIn K cE = true) (poE : PySem.W.plainOver K cE = true) (saE : PySem.W.findIn K (.ref cE) "__setattr__" = some (some (.builtin "object.__setattr__"))) (nE_phase : PySem.W.findIn K (.ref cE) "phase" = some none) (nE_leads : PySem.W.findIn K (.ref cE) "leads" = some none) (nE_every : PySem.W.findIn K (.ref cE) "every" = some none) (nE_greeting : PySem.W.findIn K (.ref cE) "greeting" = some none) (nE_outgoing : PySem.W.findIn K (.ref cE) "outgoing" = some none) (nE_arrived : PySem.W.findIn K (.ref cE) "arrived" = some none) (nE_readable : PySem.W.findIn K (.ref cE) "readable" = some none) (nE_end_sent : PySem.W.findIn K (.ref cE) "end_sent" = some none) (nE_end_came : PySem.W.findIn K (.ref cE) "end_came" = some none) (nE_sending : PySem.W.findIn K (.ref cE) "sending" = some none) (nE_receiving : PySem.W.findIn K (.ref cE) "receiving" = some none) (pgW : PySem.W.plainGet K cW Str.empty = true) (hdW : PySem.W.hasDictIn K cW = true) (poW : PySem.W.plainOver K cW = true) (saW : PySem.W.findIn K (.ref cW) "__setattr__" = some (some (.builtin "object.__setattr__"))) (nW_key : PySem.W.findIn K (.ref cW) "key" = some none) (nW_count : PySem.W.findIn K (.ref cW) "count" = some none) (nW_new_keys : PySem.W.findIn K (.ref cW) "new_keys" = some none) (pgG : PySem.W.plainGet K cG Str.empty = true) (hdG : PySem.W.hasDictIn K cG = true) (poG : PySem.W.plainOver K cG = true) (saG : PySem.W.findIn K (.ref cG) "__setattr__" = some (some (.builtin "object.__setattr__"))) (nG_own : PySem.W.findIn K (.ref cG) "own" = some none) (nG_other : PySem.W.findIn K (.ref cG) "other" = some none) (nG_fleeting : PySem.W.findIn K (.ref cG) "fleeting" = some none) (nG_own_public : PySem.W.findIn K (.ref cG) "own_public" = some none) (nG_fleeting_public : PySem.W.findIn K (.ref cG) "fleeting_public" = some none) (nG_chain : PySem.W.findIn K (.ref cG) "chain" = some none) (pgR : PySem.W.plainGet K cR Str.empty = true) (hdR : PySem.W.hasDictIn K cR = true) (poR : PySem.W.plainOver K cR = true) (saR : PySem.W.findIn K (.ref cR) "__setattr__" = some (some (.builtin "object.__setattr__"))) (nR_calls : PySem.W.findIn K (.ref cR) "calls" = some none) (nR_place : PySem.W.findIn K (.ref cR) "place" = some none) : Txt K mg ⟨cE, cW, cG, cR, cB⟩ :=
  ⟨exc, ⟨pgE, hdE, poE, saE⟩, nE_phase, nE_leads, nE_every, nE_greeting, nE_outgoing, nE_arrived, nE_readable, nE_end_sent, nE_end_came, nE_sending, nE_receiving, ⟨pgW, hdW, poW, saW⟩, nW_key, nW_count, nW_new_keys, ⟨pgG, hdG, poG, saG⟩, nG_own, nG_other, nG_fleeting, nG_own_public, nG_fleeting_public, nG_chain, ⟨pgR, hdR, poR, saR⟩, nR_calls, nR_place⟩
def ivs : List Int → List Value → Bool
  | [], [] => true
  | i :: l, .int j _ :: r => i == j && ivs l r
  | _, _ => false
theorem ivs_ok : ∀ (l : List Int) (r : List Value), ivs l r = true → Vals (l.map V.int) r
  | [], [], _ => .nil
  | i :: l, .int j t :: r, h => by
    have h : (i == j && ivs l r) = true := h
    rw [Bool.and_eq_true, beq_iff_eq] at h
    exact .cons ⟨t, by rw [h.1]⟩ (ivs_ok l r h.2)
  | [], _ :: _, h => by cases h
  | _ :: _, [], h => by cases h
  | _ :: _, .none :: _, h => by cases h
  | _ :: _, .bool _ :: _, h => by cases h
  | _ :: _, .str _ _ :: _, h => by cases h
  | _ :: _, .bytes _ _ :: _, h => by cases h
  | _ :: _, .float _ _ :: _, h => by cases h
  | _ :: _, .ref _ :: _, h => by cases h
  | _ :: _, .type _ :: _, h => by cases h
  | _ :: _, .builtin _ :: _, h => by cases h
theorem sqt_mk {K : PySem.W.Frag} {a : Addr} {d : Option Addr} {its : Array Value} {n : Nat} {sl : Array (Option Value)} (l : K.lookup a = some ⟨.type "tuple", d, .seq its n, sl⟩) {xs : List Int} (v : ivs xs its.toList = true) (hz : xs.length ≤ 100) : ∀ H, SqT K H a (xs.map V.int) := fun H =>
  .inr ⟨_, its, n, l, rfl, rfl, by have e := Vals.length (ivs_ok _ _ v); rw [List.length_map] at e; have e2 : its.toList.length = its.size := Array.length_toList; rw [sizeLine_eq]; show its.size ≤ 16777216; omega, ivs_ok _ _ v⟩
theorem refs_ok (as : List Addr) : Vals (as.map V.ref) (as.map Value.ref) := by
  induction as with
  | nil => exact .nil
  | cons a l ih => exact .cons rfl ih
theorem tups_mk {K : PySem.W.Frag} {h : Heap} {mg : Str → Option Value} {ac an aq : Addr} {dc dn dq : Option Addr} {ic In_ : Array Value} {nc nn nq : Nat} {sc sn sq : Array (Option Value)} {a1 a2 a3 a4 a5 a6 a7 a8 : Addr} {d1 d2 d3 d4 d5 d6 d7 d8 : Option Addr} {i1 i2 i3 i4 i5 i6 i7 i8 : Array Value} {n1 n2 n3 n4 n5 n6 n7 n8 : Nat} {s1 s2 s3 s4 s5 s6 s7 s8 : Array (Option Value)} (X : K.In h) (N : h.Ns mainGlobals mg)
    (hc : PySem.W.nsIn K mainGlobals "CONSTANTS" = some (some (.ref ac))) (lc : K.lookup ac = some ⟨.type "tuple", dc, .seq ic nc, sc⟩) (vc : ivs [1634760805, 857760878, 2036477234, 1797285236] ic.toList = true)
    (hn : PySem.W.nsIn K mainGlobals "NONCE_ZERO" = some (some (.ref an))) (ln : K.lookup an = some ⟨.type "tuple", dn, .seq In_ nn, sn⟩) (vn : ivs [0, 0, 0, 0, 0, 0, 0, 0, 0, 0, 0, 0] In_.toList = true)
    (hq : PySem.W.nsIn K mainGlobals "QUARTERS" = some (some (.ref aq))) (lq : K.lookup aq = some ⟨.type "tuple", dq, .seq #[.ref a1, .ref a2, .ref a3, .ref a4, .ref a5, .ref a6, .ref a7, .ref a8] nq, sq⟩)
    (l1 : K.lookup a1 = some ⟨.type "tuple", d1, .seq i1 n1, s1⟩) (v1 : ivs [0, 4, 8, 12] i1.toList = true) (l2 : K.lookup a2 = some ⟨.type "tuple", d2, .seq i2 n2, s2⟩) (v2 : ivs [1, 5, 9, 13] i2.toList = true) (l3 : K.lookup a3 = some ⟨.type "tuple", d3, .seq i3 n3, s3⟩) (v3 : ivs [2, 6, 10, 14] i3.toList = true) (l4 : K.lookup a4 = some ⟨.type "tuple", d4, .seq i4 n4, s4⟩) (v4 : ivs [3, 7, 11, 15] i4.toList = true) (l5 : K.lookup a5 = some ⟨.type "tuple", d5, .seq i5 n5, s5⟩) (v5 : ivs [0, 5, 10, 15] i5.toList = true) (l6 : K.lookup a6 = some ⟨.type "tuple", d6, .seq i6 n6, s6⟩) (v6 : ivs [1, 6, 11, 12] i6.toList = true) (l7 : K.lookup a7 = some ⟨.type "tuple", d7, .seq i7 n7, s7⟩) (v7 : ivs [2, 7, 8, 13] i7.toList = true) (l8 : K.lookup a8 = some ⟨.type "tuple", d8, .seq i8 n8, s8⟩) (v8 : ivs [3, 4, 9, 14] i8.toList = true) : Tups K mg :=
  ⟨⟨ac, PySem.W.mg_of X N hc, sqt_mk lc vc (by decide)⟩, ⟨an, PySem.W.mg_of X N hn, sqt_mk ln vn (by decide)⟩,
    ⟨aq, [a1, a2, a3, a4, a5, a6, a7, a8], PySem.W.mg_of X N hq, fun H => .inr ⟨_, _, nq, lq, rfl, rfl, by rw [sizeLine_eq]; show 8 ≤ _; decide, refs_ok [a1, a2, a3, a4, a5, a6, a7, a8]⟩, .cons (sqt_mk l1 v1 (by decide)) (.cons (sqt_mk l2 v2 (by decide)) (.cons (sqt_mk l3 v3 (by decide)) (.cons (sqt_mk l4 v4 (by decide)) (.cons (sqt_mk l5 v5 (by decide)) (.cons (sqt_mk l6 v6 (by decide)) (.cons (sqt_mk l7 v7 (by decide)) (.cons (sqt_mk l8 v8 (by decide)) (.nil))))))))⟩⟩
def intKeysB (es : List DictEntry) : Bool := es.all fun e => match e.key with
  | .int k _ => e.hash == hashInt k
  | _ => false
theorem tab_mk {K : PySem.W.Frag} {d : Addr} {dd : Option Addr} {es : Array DictEntry} {ep : Nat} {sl : Array (Option Value)} (l : K.lookup d = some ⟨.type "dict", dd, .dict es ep, sl⟩) (ik : intKeysB es.toList = true) : TabK K d (fun k => findBy Value.isInt es k) := fun h X => by
  refine ⟨_, es, ep, X _ _ l, rfl, rfl, fun e he => ?_, fun _ => rfl⟩
  have z := List.all_eq_true.mp ik e (Array.mem_toList_iff.mpr he)
  split at z
  next k t hk => exact ⟨k, t, hk, beq_iff_eq.mp z⟩
  next => cases z
end S
namespace PySem.W.Fast
def tw11003550943007220192:=0
def tw16305361570568471586:=0
def tw17857851675769443522:=0
def tw3077797788441223682:=0
def tw10419798328353820333:=0
def tw6888747201405577965:=0
def tw5945455341856242767:=0
def tw12690119968822649295:=0
def tw8808447344239383602:=0
def tw10633873509884951732:=0
def tw11080153403093620725:=0
def tw17724759270813055096:=0
def tw3187923164664596794:=0
def tw7225915578824092669:=0
def tw4211013104358181216:=0
def tw11957319752616348819:=0
def tw2260113450679118170:=0
def tw4091708801742748576:=0
def tw11294670888166012675:=0
def tw7096008143135289924:=0
def tw14094824980284551045:=0
def tw6310470638958367398:=0
def tw15919433511499296199:=0
def tw15001595101870226000:=0
def tw1727626323129637809:=0
def tw16639766764010397301:=0
def tw16600899127402474070:=0
def tw18425237403647147543:=0
def tw1533940002814728023:=0
def tw5236858948216138137:=0
def tw4954225905292074589:=0
def tw293422690381430989:=0
def tw16822531710518957504:=0
def tw2635704362832184882:=0
def tw14124907921391085762:=0
def tw13626253860624599711:=0
def tw7344796520225794191:=0
def tw16202069183598534368:=0
def tw9521761602275337429:=0
def tw504829616120240680:=0
def tw3067523712331401931:=0
def tw944936457484484729:=0
def tw11432913721669673124:=0
def tw534457841211663021:=0
def tw12195356907738908899:=0
def tw12361209641011879531:=0
def tw15330579449978568295:=0
def tw3740430966644356569:=0
def tw13016685019978092830:=0
def tw7491369062664845305:=0
def tw6588161884482774564:=0
def tw15446505419872322364:=0
def tw11179586118320351343:=0
def tw7830463928601033904:=0
def tw13254177476607028533:=0
def tw1410651010832013344:=0
def tw1779626106977580143:=0
def tw2287882411572516708:=0
def tw5319366052968287314:=0
def tw16762492356624960777:=0
def tw16800944557717622561:=0
def tw15125719104608297588:=0
def tw11898254545933823848:=0
def tw16084037391058070423:=0
def tw8796585981570957582:=0
def tw12849690962965542637:=0
def tw18189847726724428111:=0
def tw17749055573251171076:=0
def tw10430374813013681106:=0
def tw15358634747811813996:=0
def tw5885555440741891714:=0
def tw7230852500730017338:=0
def tw3510292539112662501:=0
def tw3296113102276267203:=0
def tw1082492341216600199:=0
def tw10416510619192488949:=0
def tw17600636307585670580:=0
def tw2628944705752771663:=0
def tw5048331262043297315:=0
def tw7349893479224473043:=0
def tw521396367508135846:=0
def tw14593959963889896906:=0
def tw9677394676361666182:=0
def tw14657839494609019380:=0
def tw13750886872543691535:=0
def tw1518685000426621357:=0
def tw3220108676795728633:=0
def tw16996560943061076663:=0
def tw5438988004039100798:=0
def tw6964504848830572620:=0
def tw7386285606765214609:=0
def tw11575784123152608056:=0
def tw16122639489507374384:=0
def tw16527403987957870012:=0
def tw10589893614759612600:=0
def tw5684480215523439958:=0
def tw18042886209412608187:=0
def tw2459667732593464520:=0
def tw5633077632080445451:=0
def tw16288349740572942379:=0
def tw16314740987517033940:=0
def tw12993738422691914679:=0
def tw10056754544139765451:=0
def tw8162361242769543188:=0
def tw15142009315851750587:=0
def tw10734190861665837543:=0
def tw841843993261363376:=0
def tw6733348247968055515:=0
def tw8563539455743847696:=0
def tw13894541037426256756:=0
def tw486241731079429580:=0
def tw7349119964787946995:=0
def tw14010932009924010697:=0
def tw2782332079547012905:=0
def tw14608049414523718605:=0
def tw17854881887468710681:=0
def tw13454358883286295177:=0
def tw5123409172621081314:=0
def tw5723807033324487179:=0
def tw8504681777476964769:=0
def tw9342553861270449969:=0
def tw1119435284229403087:=0
def tw16513804043558763788:=0
def tw11744244356796524607:=0
def tw12403332245200097655:=0
def tw17419793625886564714:=0
def tw1668978090709589475:=0
def tw5545494442113443694:=0
def tw1014389569048828181:=0
def tw8315746527209543576:=0
def tw18370086061004422919:=0
def tw15837932167174069119:=0
def tw13507795596728908580:=0
def tw8455678442944186973:=0
def tw9933139120016667179:=0
def tw12763360247614927149:=0
def tw234214825212597742:=0
def tw6763098231263277764:=0
def tw464643782805619428:=0
def tw14927894402924615809:=0
def tw1317927220283717542:=0
def tw12496482553283579180:=0
def tw17450839179976185327:=0
def tw13396858830603993111:=0
def tw15975851206880274357:=0
def tw17526096858879837172:=0
def tw14979384524770177232:=0
def tw14648877561749522720:=0
def tw4636553933300637375:=0
def tw14745917408178529989:=0
def tw6475888525247104458:=0
def tw15827930474259027162:=0
def tw14924767064686260738:=0
def tw15996361743676144798:=0
def tw17915285652014271505:=0
def tw2225115342784007136:=0
def tw17738710228987230376:=0
def tw13614767546006849013:=0
def tw16156745594692794738:=0
def tw6668394569145183488:=0
def tw17403106752559490356:=0
def tw4066882213144291032:=0
def tw11373758815042377830:=0
def tw541557799310029020:=0
def tw362276638626779013:=0
def tw16217110866733879232:=0
def tw15728788060542067686:=0
def tw633773277806419888:=0
def tw18240143344204073896:=0
def tw12788776713491765231:=0
def tw12151647741319084832:=0
def tw15625386375834575242:=0
def tw12364619605032028753:=0
def tw17604515855848966027:=0
def tw15850459813888248221:=0
def tw10611492159636408231:=0
def tw13895351361998985704:=0
def tw9870414756721349140:=0
def tw3887025686486864971:=0
def tw9888574002278166308:=0
def tw14013886097652573736:=0
def tw16374138817492203709:=0
def tw8101709395876051043:=0
def tw3794822296854846845:=0
def tw6377026741689421481:=0
def tw10250685912809587023:=0
def tw4714915953086386688:=0
def tw7847413944394919253:=0
def tw2434943856314042434:=0
def tw2125576233027689114:=0
def tw11816965715597462343:=0
def tw17927483247032322878:=0
def tw3296406338392808046:=0
def tw4507349697480181714:=0
def tw13030645001960178334:=0
def tw3344804876145497478:=0
def tw11981257213925303875:=0
def tw9829399294352516978:=0
def tw10779831207345148110:=0
def tw14635429407460281408:=0
def tw16568135783568987628:=0
def tw1719291230949833688:=0
def tw7924859865710610151:=0
def tw3321896915439238733:=0
def tw700625697693724693:=0
def tw5442111530101729377:=0
def tw15839764362710823793:=0
def tw4198014609238722615:=0
def tw6200859703312858010:=0
def tw3948318396037561484:=0
def tw17151420838375762479:=0
def tw1599219178763281125:=0
def tw15708089732747535866:=0
def tw262504696446634059:=0
def tw17466966711143445783:=0
def tw8393843068420109829:=0
def tw15733156413717229311:=0
def tw9546228297791799834:=0
def tw16962801333321167714:=0
def tw13678964270191821557:=0
def tw3391932770886955891:=0
def tw1948396345920039980:=0
def tw12978477195006967060:=0
def tw6943887125639961550:=0
def tw10185904417652301360:=0
def tw16702403659994233875:=0
def tw12704573357681365525:=0
def tw1180663446625042792:=0
def tw13313697568633538583:=0
def tw13838423037559273703:=0
def tw12540276068822458047:=0
def tw14863809349424980133:=0
def tw3224149894911306992:=0
def tw7166753025112213538:=0
def tw6978270177711659476:=0
def tw10412575317323576970:=0
def tw4964556327907239758:=0
def tw12664469344509550021:=0
def tw9265924235016412412:=0
def tw4570814661171609874:=0
def tw3676710726523074828:=0
def tw17311455191178031190:=0
def tw17015486291403716961:=0
def tw8097439671823261760:=0
def tw8055699158621888917:=0
def tw3519772165143476689:=0
def tw17950651970865716749:=0
def tw16368190642033661519:=0
def tw6069585321089868566:=0
def tw12408455967084832937:=0
def tw9308630694658039529:=0
def tw13706256016565502256:=0
end PySem.W.Fast
open PySem PySem.W PyProof.Rows
set_option maxRecDepth 100000 in
set_option maxHeartbeats 0 in
theorem PySem.Challenge.cw_sealedstream_s01_answers_holds : PySem.Challenge.rw_sealedstream_s01_answers.Holds := by
  w_on; k_headS; (case hw => exact ⟨[.list [.int 10]], by decide +kernel, by decide +kernel⟩)
  k_fillS
  refine L2.walk_specK (r := PySem.Challenge.rw_sealedstream_s01_answers) (k := 14) (CX := L2.CX0) (ps := ["calls"]) (sp := S.spTop) (by decide +kernel) rfl rfl ⟨rfl, by decide, by decide⟩ (fun w h Y => PySem.W.kIn_of Y) ?F ?S (fun _ _ _ _ z => z)
  case F =>
    intro w mg fa h Y KX G hmg
    refine' S.all_defs hmg ?G ?TU ?T ?mkE ?mkW ?mkG ?mkR ?kcE ?kcW ?kcG ?kcR ?mgE ?mgW ?mgG ?mgR ?gAN ?TK ?d_number_of ?d_bytes_of ?d_scalar_of ?d_inverse ?d_ladder_step ?d_point ?d_public_key ?d_is_zero ?d_words_of ?d_bytes_of_words ?d_turned ?d_quarter ?d_ten_rounds ?d_block ?d_derived ?d_mixed ?d_tag ?d_padded ?d_tag_of_sealed ?d_crossed ?d_sealed ?d_opened ?d_first_chain ?d_with_point ?d_longer_chain ?d_proof ?d_check_proof ?d_Greeting_init ?d_Greeting_message ?d_Greeting_lead ?d_Greeting_meet_second ?d_Greeting_meet_first ?d_key_of_way ?d_rest_size ?d_check_content ?d_Way_init ?d_Way_nonce ?d_Way_step ?d_Way_forget ?d_Way_record ?d_Way_content ?d_End_refusal_to_send ?d_End_refusal_to_add ?d_End_refusal_to_hear ?d_End_cut ?d_may_be_most ?d_End_take ?d_End_read ?d_End_state ?d_End_send ?d_End_send_with_new_key_if_due ?d_End_write ?d_End_renew ?d_End_finish ?d_End_arrived_part ?d_End_receive ?d_End_give_up ?d_End_reset ?d_End_init ?d_End_has_whole_record ?d_End_meet ?d_End_go_through ?d_End_came ?d_may_begin ?d_End_begin ?d_Reader_init ?d_Reader_has_more ?d_Reader_number ?d_Reader_row ?d_answer_public ?d_answer_shared ?d_answer_renew ?d_answer_end ?d_answer_cut ?d_answer_state ?d_answer_take ?d_answer_read ?d_answer_write ?d_answer_came ?d_answer_begin ?d_may_be_sealed ?d_answer_seal ?d_answer_unseal ?t1 ?t2 ?t3 ?t4 ?t5 ?t6 ?t7 ?t8 ?t9 ?t10 ?t11 ?t12 ?t13 ?d_answers
    (case mgE | mgW | mgG | mgR | gAN => exact PySem.W.mg_of KX G (by k_is))
    (case mkE | kcE | mkW | kcW | mkG | kcG | mkR | kcR => k_is)
    case G =>
      refine' S.glb_mk KX G ?h_len ?h_range ?h_reversed ?h_zip ?h_list ?h_max ?h_all ?h_ord ?h_P ?h_LOW_255_BITS ?h_KEPT_OF_KEY ?h_BIT_254 ?h_KEY_SIZE ?h_UNFIT ?h_IS_BROKEN ?h_NOT_NOW ?h_TOO_MUCH ?h_MASK ?h_KEPT_OF_R ?h_TAG_PRIME ?h_TAG_SIZE ?h_NONCE_SIZE ?h_BLOCK_SIZE ?h_MESSAGE_SIZE ?h_DATA_KIND ?h_KEY_KIND ?h_END_KIND ?h_HEAD_SIZE ?h_MOST_DATA ?h_BESIDES_DATA ?h_MOST_REST ?h_NEXT_KEY ?h_NOT_OPENED ?h_WAITING ?h_SEALED ?h_BROKEN ?h_MOST_EVERY ?h_MOST_BYTES ?h_MOST_HELD ?h_FIRST_SENDS ?h_SECOND_SENDS ?h_MOST_SEALED ?h_BEGIN
      (case h_len | h_range | h_reversed | h_zip | h_list | h_max | h_all | h_ord | h_P | h_LOW_255_BITS | h_KEPT_OF_KEY | h_BIT_254 | h_KEY_SIZE | h_UNFIT | h_IS_BROKEN | h_NOT_NOW | h_TOO_MUCH | h_MASK | h_KEPT_OF_R | h_TAG_PRIME | h_TAG_SIZE | h_NONCE_SIZE | h_BLOCK_SIZE | h_MESSAGE_SIZE | h_DATA_KIND | h_KEY_KIND | h_END_KIND | h_HEAD_SIZE | h_MOST_DATA | h_BESIDES_DATA | h_MOST_REST | h_NEXT_KEY | h_NOT_OPENED | h_WAITING | h_SEALED | h_BROKEN | h_MOST_EVERY | h_MOST_BYTES | h_MOST_HELD | h_FIRST_SENDS | h_SECOND_SENDS | h_MOST_SEALED | h_BEGIN => k_is)
    case T =>
      refine' S.txt_mk ?exc ?pgE ?hdE ?poE ?saE ?nE_phase ?nE_leads ?nE_every ?nE_greeting ?nE_outgoing ?nE_arrived ?nE_readable ?nE_end_sent ?nE_end_came ?nE_sending ?nE_receiving ?pgW ?hdW ?poW ?saW ?nW_key ?nW_count ?nW_new_keys ?pgG ?hdG ?poG ?saG ?nG_own ?nG_other ?nG_fleeting ?nG_own_public ?nG_fleeting_public ?nG_chain ?pgR ?hdR ?poR ?saR ?nR_calls ?nR_place
      case exc =>
        refine' S.exc_mk ?b ?e1 ?e2
        (case b => exact PySem.W.mg_of KX G (by k_is))
        (case e1 => kernel_rfl)
        (case e2 => kernel_rfl)
      (case pgE | hdE | poE | saE | nE_phase | nE_leads | nE_every | nE_greeting | nE_outgoing | nE_arrived | nE_readable | nE_end_sent | nE_end_came | nE_sending | nE_receiving | pgW | hdW | poW | saW | nW_key | nW_count | nW_new_keys | pgG | hdG | poG | saG | nG_own | nG_other | nG_fleeting | nG_own_public | nG_fleeting_public | nG_chain | pgR | hdR | poR | saR | nR_calls | nR_place => k_is)
    case TU =>
      refine' S.tups_mk KX G ?uc ?lc ?vc ?hn ?ln ?vn ?hq ?lq ?l1 ?v1 ?l2 ?v2 ?l3 ?v3 ?l4 ?v4 ?l5 ?v5 ?l6 ?v6 ?l7 ?v7 ?l8 ?v8
      (case uc | lc | hn | ln | hq | lq | l1 | l2 | l3 | l4 | l5 | l6 | l7 | l8 => k_is)
      (case vc | vn | v1 | v2 | v3 | v4 | v5 | v6 | v7 | v8 => kernel_rfl)
    case TK =>
      refine' S.tab_mk ?l ?ik
      (case l => k_is)
      (case ik => kernel_rfl)
    (case t1 | t2 | t3 | t4 | t5 | t6 | t7 | t8 | t9 | t10 | t11 | t12 | t13 => exact ⟨_, by kernel_rfl, PySem.W.mg_of KX G (by k_is)⟩)
    case d_number_of | d_bytes_of | d_scalar_of | d_inverse | d_ladder_step | d_point | d_public_key | d_is_zero | d_words_of | d_bytes_of_words | d_turned | d_quarter | d_ten_rounds | d_block | d_derived | d_mixed | d_tag | d_padded | d_tag_of_sealed | d_crossed | d_sealed | d_opened | d_first_chain | d_with_point | d_longer_chain | d_proof | d_check_proof | d_key_of_way | d_rest_size | d_check_content | d_may_be_most | d_may_begin | d_answer_public | d_answer_shared | d_answer_renew | d_answer_end | d_answer_cut | d_answer_state | d_answer_take | d_answer_read | d_answer_write | d_answer_came | d_answer_begin | d_may_be_sealed | d_answer_seal | d_answer_unseal | d_answers =>
      refine' S.def_mk KX G ?a ?l ?c ?k
      (case a | l | c | k => k_is)
    case d_Greeting_init | d_Greeting_message | d_Greeting_lead | d_Greeting_meet_second | d_Greeting_meet_first | d_Way_init | d_Way_nonce | d_Way_step | d_Way_forget | d_Way_record | d_Way_content | d_End_refusal_to_send | d_End_refusal_to_add | d_End_refusal_to_hear | d_End_cut | d_End_take | d_End_read | d_End_state | d_End_send | d_End_send_with_new_key_if_due | d_End_write | d_End_renew | d_End_finish | d_End_arrived_part | d_End_receive | d_End_give_up | d_End_reset | d_End_init | d_End_has_whole_record | d_End_meet | d_End_go_through | d_End_came | d_End_begin | d_Reader_init | d_Reader_has_more | d_Reader_number | d_Reader_row =>
      refine' S.mdef_mk ?a ?i ?l ?c ?k
      (case a | i | l | c | k => k_is)
  case S =>
    intro K H xs a hO hwi hask hx
    cases hx with
    | cons h1 h2 =>
      cases h2
      cases h1 with
      | lst hs ha =>
        have e := L2.ints_dw a.1 _ ha
        subst e
        have q : ((Codec.inLen 0 30000 a.1 && a.1.all (Codec.inInt (-2147483648) 2147483647)) && true) = true := hwi
        rw [Bool.and_eq_true, Bool.and_eq_true] at q
        exact ⟨_, a.1, rfl, hs, (Codec.inNat_iff.mp q.1.1).2, hask, fun H' p hp => .lst (L2.SqL.of hp) (L2.dw_ints _)⟩
#print axioms PySem.Challenge.cw_sealedstream_s01_answers_holds
