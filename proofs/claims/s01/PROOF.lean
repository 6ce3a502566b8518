import PyProof.Rows.All
import Wide.All
import OpenK.AllK
import Wide.FinOn
import PyProof.EqAt
import PyProof.EqKinds
import PyProof.TupleCall
import KE.BitLaws
import Open.SpecLaws
import KE.OsHead
import KE.OsGo
import PySem.Challenge.RW_blockflow_s01_answers

section
set_option Elab.async false
set_option linter.all false
set_option maxRecDepth 100000
namespace L2
open PySem PySem.Spec PyProof.Rows
abbrev Key := Sum Int Str
def keyIs : Key → Value → Bool
  | .inl k, v => Value.isInt k v
  | .inr x, v => Value.isStrOf x v
def keyH (w : World) : Key → Int
  | .inl k => hashInt k
  | .inr x => hashStr w x
theorem keyIs_shape : ∀ {k : Key} {v : Value}, keyIs k v = true → (∃ i t, k = Sum.inl i ∧ v = Value.int i t) ∨ (∃ x t, k = Sum.inr x ∧ v = Value.str x t)
  | .inl i, v, h => by
    obtain ⟨t, e⟩ := Value.isInt_shape (k := i) (v := v) h
    exact .inl ⟨i, t, rfl, e⟩
  | .inr x, v, h => by
    obtain ⟨t, e⟩ := Value.isStrOf_shape (x := x) (v := v) h
    exact .inr ⟨x, t, rfl, e⟩
theorem key_ll (a b : Int) : decide ((Sum.inl a : Key) = Sum.inl b) = (a == b) := by
  by_cases e : a = b
  · subst e; simp
  · have h : ¬ (Sum.inl a : Key) = Sum.inl b := fun q => e (Sum.inl.inj q)
    rw [decide_eq_false h]
    exact (beq_eq_false_iff_ne.mpr e).symm
theorem key_rr (a b : Str) : decide ((Sum.inr a : Key) = Sum.inr b) = decide (a = b) := by
  by_cases e : a = b
  · subst e; simp
  · have h : ¬ (Sum.inr a : Key) = Sum.inr b := fun q => e (Sum.inr.inj q)
    rw [decide_eq_false h, decide_eq_false e]
theorem key_lr (a : Int) (b : Str) : decide ((Sum.inl a : Key) = Sum.inr b) = false := decide_eq_false (fun q => nomatch q)
theorem key_rl (a : Str) (b : Int) : decide ((Sum.inr a : Key) = Sum.inl b) = false := decide_eq_false (fun q => nomatch q)
def mixKind (prog : Program) (w : World) : PySem.KeyKind prog w Key where
  is := keyIs
  hash := keyH w
  inj := fun v a b ha hb => by
    rcases keyIs_shape ha with ⟨i, t, rfl, rfl⟩ | ⟨x, t, rfl, rfl⟩
    · rcases keyIs_shape hb with ⟨j, u, rfl, e⟩ | ⟨y, u, rfl, e⟩
      · injection e with e1 _; rw [e1]
      · exact nomatch e
    · rcases keyIs_shape hb with ⟨j, u, rfl, e⟩ | ⟨y, u, rfl, e⟩
      · exact nomatch e
      · injection e with e1 _; rw [e1]
  byValue := fun k v h => by
    rcases keyIs_shape h with ⟨i, t, rfl, rfl⟩ | ⟨x, t, rfl, rfl⟩ <;> rfl
  pyHash := fun hv h => by
    rcases keyIs_shape hv with ⟨i, t, rfl, rfl⟩ | ⟨x, t, rfl, rfl⟩
    · exact wpAny_pyHash_int h
    · exact wpAny_pyHash_str h
  eqBool := fun hu hv h => by
    rcases keyIs_shape hu with ⟨i, t, rfl, rfl⟩ | ⟨x, t, rfl, rfl⟩
    · rcases keyIs_shape hv with ⟨j, u, rfl, rfl⟩ | ⟨y, u, rfl, rfl⟩
      · rw [key_ll] at h; exact wpAny_eqBool_int h
      · rw [key_lr] at h; exact SeqAt.EqAt.int_str i t y u _ _ _ _ h
    · rcases keyIs_shape hv with ⟨j, u, rfl, rfl⟩ | ⟨y, u, rfl, rfl⟩
      · rw [key_rl] at h; exact SeqAt.EqAt.str_int x t j u _ _ _ _ h
      · rw [key_rr] at h; exact wpAny_eqBool_str h
  «strs» := fun k x t v h => by
    rcases keyIs_shape h with ⟨i, u, rfl, e⟩ | ⟨y, u, rfl, e⟩
    · exact nomatch e
    · injection e with e1 _
      subst e1
      cases v <;> rfl
end L2
namespace L2
open PySem PySem.Spec PyProof.Rows
inductive V where
  | non | bl (b : Bool) | int (i : Int) | str (x : Str) | byt (b : Array UInt8) | flt (b : UInt64) | ref (a : Addr) | ty (n : String)
  deriving DecidableEq
def RelV : V → Value → Prop
  | .non, u => u = Value.none
  | .bl b, u => u = Value.bool b
  | .int i, u => ∃ t, u = Value.int i t
  | .str x, u => ∃ t, u = Value.str x t
  | .byt b, u => ∃ t, u = Value.bytes b t
  | .flt b, u => ∃ t, u = Value.float b t
  | .ref a, u => u = Value.ref a
  | .ty n, u => u = Value.type n
abbrev Vals : List V → List Value → Prop := Paired RelV
theorem Vals.length {xs : List V} {us : List Value} (r : Vals xs us) : xs.length = us.length := Paired.length r
theorem Vals.get : ∀ {xs : List V} {us : List Value} {i : Nat} {x : V}, Vals xs us → xs[i]? = some x → ∃ u, us[i]? = some u ∧ RelV x u
  | _, _, _, _, .nil, e => by simp at e
  | _, _, 0, _, .cons r _, e => by simp at e; subst e; exact ⟨_, rfl, r⟩
  | _, _, i + 1, x, .cons _ t, e => by
    obtain ⟨u, h1, h2⟩ := Vals.get (i := i) (x := x) t (by simpa using e)
    exact ⟨u, by simpa using h1, h2⟩
theorem Vals.set {x : V} {u : Value} (r : RelV x u) : ∀ {xs : List V} {us : List Value} (i : Nat), Vals xs us → Vals (xs.set i x) (us.set i u)
  | _, _, _, .nil => .nil
  | _, _, 0, .cons _ t => .cons r t
  | _, _, i + 1, .cons q t => .cons q (Vals.set r i t)
theorem Vals.append : ∀ {xs ys : List V} {us ws : List Value}, Vals xs us → Vals ys ws → Vals (xs ++ ys) (us ++ ws)
  | _, _, _, _, .nil, s => s
  | _, _, _, _, .cons r t, s => .cons r (Vals.append t s)
theorem Vals.take : ∀ {xs : List V} {us : List Value} (n : Nat), Vals xs us → Vals (xs.take n) (us.take n)
  | _, _, 0, _ => .nil
  | _, _, _ + 1, .nil => .nil
  | _, _, n + 1, .cons r t => .cons r (Vals.take n t)
theorem Vals.drop : ∀ {xs : List V} {us : List Value} (n : Nat), Vals xs us → Vals (xs.drop n) (us.drop n)
  | _, _, 0, r => r
  | _, _, _ + 1, .nil => .nil
  | _, _, n + 1, .cons _ t => Vals.drop n t
def RelO : Option V → Option Value → Prop
  | some v, some u => RelV v u
  | none, none => True
  | _, _ => False
def KV {κ : Type} : List (κ × V) → List (κ × Value) → Prop := Paired fun (p : κ × V) (q : κ × Value) => p.1 = q.1 ∧ RelV p.2 q.2
def kV : Key → V
  | .inl i => .int i
  | .inr x => .str x
inductive HO where
  | lst (xs : List V)
  | tup (xs : List V)
  | dK (kvs : List (Key × V)) | dT (kvs : List (List Key × V))
  | set (S : Int → Bool) (n : Nat)
  | ins (C dx : Addr) (fs : List (Str × V))
  | own (x : Addr)
  | xd (fs : List (Str × V))
  | met (f x : Addr)
  | rng (lo hi : Int)
  | frz (o : Obj) (u : HO)
  | tbl (ps : Array Value)
  | ext (φ : Heap → Prop)
abbrev Hp := Addr → Option HO
def upd (H : Hp) (a : Addr) (o : HO) : Hp := fun b => if b = a then some o else H b
theorem upd_same {H : Hp} {a : Addr} {o : HO} : upd H a o a = some o := by unfold upd; rw [if_pos rfl]
theorem upd_ne {H : Hp} {a b : Addr} {o : HO} (h : b ≠ a) : upd H a o b = H b := by unfold upd; rw [if_neg h]
theorem upd_upd {H : Hp} {a : Addr} {o u : HO} : upd (upd H a o) a u = upd H a u := by
  funext b; unfold upd; split <;> rfl
theorem ne_of {H : Hp} {a b : Addr} {o u : HO} (h : H a = some o) (h' : H b = some u) (d : o ≠ u) : a ≠ b := by
  intro e; subst e; rw [h] at h'; exact d (Option.some.inj h')
theorem ne_of_none {H : Hp} {a b : Addr} {o : HO} (h : H a = some o) (h' : H b = none) : a ≠ b := by
  intro e; subst e; rw [h] at h'; cases h'
section
variable (P : Program) (w : World)
def ObjOk (H : Hp) (h : Heap) (a : Addr) : HO → Prop
  | .lst xs => xs.length ≤ sizeLine ∧ ∃ (its : List Value) (n : Nat), Vals xs its ∧ h.get? a = some { cls := .type "list", data := .seq its.toArray n }
  | .tup xs => xs.length ≤ sizeLine ∧ ∃ its : List Value, Vals xs its ∧ IsTup h a its.toArray
  | .dK kvs => kvs.length ≤ sizeLine ∧ (a == sysModules) = false ∧ ∃ vs, KV kvs vs ∧ h.DictOf (mixKind P w) a vs
  | .dT kvs => kvs.length ≤ sizeLine ∧ (a == sysModules) = false ∧ ∃ xs : List (List Key × Addr × Value),
      Paired (fun (p : List Key × V) (q : List Key × Addr × Value) => p.1 = q.1 ∧ H q.2.1 = some (.tup (p.1.map kV)) ∧ RelV p.2 q.2.2) kvs xs ∧
      ∃ o es ep, h.get? a = some o ∧ o.ExactDict ∧ o.data = .dict es ep ∧ es.toList = xs.map (entryOfKey (tupleKind (mixKind P w))) ∧ (xs.map (·.1)).Nodup
  | .set S n => h.SetOf (intKind P w) a S n
  | .ins C dx fs => H dx = some (.own a) ∧ fs.length ≤ 1000 ∧ dx ≠ a ∧ h.get? a = some (PySem.W.instObj C dx) ∧
      ∃ mA, h.Ns1 dx mA ∧ (∀ f, RelO (fs.lookup f) (mA f)) ∧ PySem.Within mA (fs.map (·.1))
  | .own _ => ∃ o, h.get? a = some o
  | .xd fs => ∃ mA, h.Ns1 a mA ∧ ∀ f, RelO (fs.lookup f) (mA f)
  | .rng lo hi => ∃ t u v, h.get? a = some { cls := .type "range", data := .fields #[.int lo t, .int hi u, .int 1 v] }
  | .frz o u => h.get? a = some o ∧ ObjOk H h a u
  | .tbl ps => h.get? a = some { cls := .none, data := .fields ps }
  | .met f x => h.get? a = some (PySem.W.methodObj (.ref f) (.ref x))
  | .ext φ => φ h ∧ (∃ o, h.get? a = some o) ∧ ∀ h1 h2 : Heap, φ h1 → (∀ o, h1.get? a = some o → h2.get? a = some o) → φ h2
def HOk (H : Hp) (h : Heap) : Prop := ∀ a o, H a = some o → ObjOk P w H h a o
end
section
variable {P : Program} {w : World} {H H' : Hp} {h h' : Heap} {a : Addr} {o : HO}
theorem ObjOk.lt (x : ObjOk P w H h a o) : a < h.objs.size := by
  cases o with
  | lst xs => obtain ⟨_, _, _, _, e⟩ := x; exact Heap.lt_size e
  | tup xs => obtain ⟨_, _, _, p⟩ := x; exact p.lt
  | dK kvs => obtain ⟨_, _, _, _, o, _, _, e, _⟩ := x; exact Heap.lt_size e
  | dT kvs => obtain ⟨_, _, _, _, o, _, _, e, _⟩ := x; exact Heap.lt_size e
  | set S n => obtain ⟨o, _, _, _, e, _⟩ := x; exact Heap.lt_size e
  | ins C dx fs => obtain ⟨_, _, _, e, _⟩ := x; exact Heap.lt_size e
  | own y => obtain ⟨_, e⟩ := x; exact Heap.lt_size e
  | xd fs => obtain ⟨_, ⟨_, _, _, e, _⟩, _⟩ := x; exact Heap.lt_size e
  | rng lo hi => obtain ⟨_, _, _, e⟩ := x; exact Heap.lt_size e
  | frz ob u => obtain ⟨e, _⟩ := x; exact Heap.lt_size e
  | tbl ps => exact Heap.lt_size (show h.get? a = some _ from x)
  | met f y => exact Heap.lt_size (show h.get? a = some _ from x)
  | ext φ => obtain ⟨_, ⟨_, e⟩, _⟩ := x; exact Heap.lt_size e
theorem Paired.mapP {α β : Type} {F G : α → β → Prop} : ∀ {l₁ : List α} {l₂ : List β}, Paired F l₁ l₂ → (∀ a b, F a b → G a b) → Paired G l₁ l₂
  | _, _, .nil, _ => .nil
  | _, _, .cons r t, f => .cons (f _ _ r) (Paired.mapP t f)
theorem ObjOk.stay (x : ObjOk P w H h a o) (k : ∀ b u, (b = a ∨ H b = some (.own a)) → h.get? b = some u → h'.get? b = some u)
    (ho : ∀ b, H b = some (.own a) → H' b = some (.own a)) (ht : ∀ b xs, H b = some (.tup xs) → H' b = some (.tup xs)) : ObjOk P w H' h' a o := by
  induction o with
  | lst xs => obtain ⟨z, its, n, r, e⟩ := x; exact ⟨z, its, n, r, k _ _ (.inl rfl) e⟩
  | tup xs => obtain ⟨z, its, r, ob, e, c⟩ := x; exact ⟨z, its, r, ob, k _ _ (.inl rfl) e, c⟩
  | dK kvs => obtain ⟨z, y, vs, r, ob, es, ep, e, c⟩ := x; exact ⟨z, y, vs, r, ob, es, ep, k _ _ (.inl rfl) e, c⟩
  | dT kvs =>
    obtain ⟨z, y, xs, r, ob, es, ep, e, c⟩ := x
    exact ⟨z, y, xs, Paired.mapP r fun p q z => ⟨z.1, ht _ _ z.2.1, z.2.2⟩, ob, es, ep, k _ _ (.inl rfl) e, c⟩
  | set S n => obtain ⟨ob, es, ep, t, e, c⟩ := x; exact ⟨ob, es, ep, t, k _ _ (.inl rfl) e, c⟩
  | ins C dx fs =>
    obtain ⟨d, z, ne, e, mA, ⟨od, es, ep, e2, c⟩, r⟩ := x
    exact ⟨ho _ d, z, ne, k _ _ (.inl rfl) e, mA, ⟨od, es, ep, k _ _ (.inr d) e2, c⟩, r⟩
  | own y => obtain ⟨ob, e⟩ := x; exact ⟨ob, k _ _ (.inl rfl) e⟩
  | xd fs => obtain ⟨mA, ⟨od, es, ep, e, c⟩, r⟩ := x; exact ⟨mA, ⟨od, es, ep, k _ _ (.inl rfl) e, c⟩, r⟩
  | rng lo hi => obtain ⟨t, u, v, e⟩ := x; exact ⟨t, u, v, k _ _ (.inl rfl) e⟩
  | frz ob u ih => obtain ⟨e, q⟩ := x; exact ⟨k _ _ (.inl rfl) e, ih q⟩
  | tbl ps =>
    have e : h.get? a = some { cls := .none, data := .fields ps } := x
    show h'.get? a = some { cls := .none, data := .fields ps }
    exact k a _ (.inl rfl) e
  | met f y =>
    have e : h.get? a = some (PySem.W.methodObj (.ref f) (.ref y)) := x
    show h'.get? a = some (PySem.W.methodObj (.ref f) (.ref y))
    exact k a _ (.inl rfl) e
  | ext φ => obtain ⟨p, ⟨o, e⟩, st⟩ := x; exact ⟨st _ _ p fun o q => k _ _ (.inl rfl) q, ⟨o, k _ _ (.inl rfl) e⟩, st⟩
theorem HOk.lt (x : HOk P w H h) (e : H a = some o) : a < h.objs.size := (x a o e).lt
theorem HOk.fresh (x : HOk P w H h) (e : h.objs.size ≤ a) : H a = none := by
  cases q : H a with
  | none => rfl
  | some u => exact absurd (Nat.lt_of_lt_of_le (x.lt q) e) (Nat.lt_irrefl _)
theorem HOk.kept (x : HOk P w H h) (k : ∀ b u, h.get? b = some u → h'.get? b = some u) : HOk P w H h' := fun a o e =>
  (x a o e).stay (fun b u _ q => k b u q) (fun _ q => q) fun _ _ q => q
theorem HOk.laid (x : HOk P w H h) (k : ∀ b u, h.get? b = some u → h'.get? b = some u) (hp : h.objs.size ≤ a) (new : ObjOk P w (upd H a o) h' a o) : HOk P w (upd H a o) h' := fun b u e => by
  have hn := x.fresh hp
  by_cases hb : b = a
  · subst hb; rw [upd_same] at e; cases e; exact new
  · rw [upd_ne hb] at e
    exact (x b u e).stay (fun c v _ q => k c v q) (fun c q => by rw [upd_ne (ne_of_none q hn)]; exact q) fun c xs q => by rw [upd_ne (ne_of_none q hn)]; exact q
end
def Rd (H : Hp) (a : Addr) (u : HO) : Prop := H a = some u ∨ ∃ o, H a = some (.frz o u)
theorem Rd.ok {P : Program} {w : World} {H : Hp} {h : Heap} {a : Addr} {u : HO} (r : Rd H a u) (x : HOk P w H h) : ObjOk P w H h a u := by
  rcases r with r | ⟨o, r⟩
  · exact x a u r
  · obtain ⟨_, q⟩ := x a _ r
    exact q
def Mut : Option HO → Prop
  | some (.lst _) => True
  | some (.dK _) => True
  | some (.dT _) => True
  | some (.set _ _) => True
  | some (.ins _ _ _) => True
  | some (.ext _) => True
  | _ => False
section
variable {P : Program} {w : World} {H : Hp} {h h' : Heap} {x e : Addr} {o' : HO}
theorem HOk.write (ok : HOk P w H h) (mu : Mut (H x)) (he : e = x ∨ H e = some (.own x)) (k : ∀ b u, b ≠ e → h.get? b = some u → h'.get? b = some u) (heo : ∃ u, h'.get? e = some u)
    (new : ObjOk P w (upd H x o') h' x o') : HOk P w (upd H x o') h' := fun b u q => by
  have nown : ∀ c y, H c = some (.own y) → c ≠ x := fun c y r z => by subst z; rw [r] at mu; exact mu
  have ntup : ∀ c xs, H c = some (.tup xs) → c ≠ x := fun c xs r z => by subst z; rw [r] at mu; exact mu
  by_cases hb : b = x
  · subst hb; rw [upd_same] at q; cases q; exact new
  · rw [upd_ne hb] at q
    by_cases hbe : b = e
    · have q' : H b = some (.own x) := by
        rcases he with z | z
        · exact absurd (hbe.trans z) hb
        · rw [hbe]; exact z
      rw [q] at q'; cases q'
      obtain ⟨v, hv⟩ := heo
      exact ⟨v, by rw [hbe]; exact hv⟩
    · refine (ok b u q).stay (fun c v hc r => k c v ?_ r) (fun c r => by rw [upd_ne (nown c b r)]; exact r) fun c xs r => by rw [upd_ne (ntup c xs r)]; exact r
      rcases hc with rfl | hc
      · exact hbe
      · rintro rfl
        rcases he with z | z
        · exact nown c b hc z
        · rw [hc] at z; cases z; exact hb rfl
end
structure Un (fs ex : List Addr) (H H' : Hp) (h h' : Heap) : Prop where
  keep : ∀ b o, h.get? b = some o → H b = none → b ∉ fs → b ∉ ex → h'.get? b = some o
  slot : ∀ b o, h.get? b = some o → H b = none → b ∈ fs → b ∉ ex → ∃ sl, h'.get? b = some { o with slots := sl }
  free : ∀ b o, h.get? b = some o → H b = none → b ∉ ex → H' b = none
  there : ∀ b o, h.get? b = some o → b ∉ ex → ∃ o', h'.get? b = some o'
  tups : ∀ b xs, H b = some (.tup xs) → H' b = some (.tup xs)
  frzs : ∀ b o u, H b = some (.frz o u) → H' b = some (.frz o u)
  tbls : ∀ b ps, H b = some (.tbl ps) → ∃ more, H' b = some (.tbl (ps ++ more))
section
variable {fs fs' ex ex' : List Addr} {H H1 H2 : Hp} {h h1 h2 h' : Heap} {a x e : Addr} {o : HO}
theorem Un.any (u : Un fs ex H H1 h h1) {b : Addr} {ob : Obj} (q : h.get? b = some ob) (n : H b = none) (hx : b ∉ ex) : ∃ sl, h1.get? b = some { ob with slots := sl } := by
  by_cases hb : b ∈ fs
  · exact u.slot b ob q n hb hx
  · exact ⟨ob.slots, u.keep b ob q n hb hx⟩
theorem Un.kept (k : ∀ b u, h.get? b = some u → h'.get? b = some u) : Un fs ex H H h h' :=
  ⟨fun b ob q _ _ _ => k b ob q, fun b ob q _ _ _ => ⟨ob.slots, k b ob q⟩, fun _ _ _ n _ => n, fun b ob q _ => ⟨ob, k b ob q⟩, fun _ _ q => q, fun _ _ _ q => q, fun _ ps q => ⟨#[], by rw [q]; simp⟩⟩
theorem Un.refl : Un fs ex H H h h := Un.kept fun _ _ q => q
theorem Un.laid (k : ∀ b u, h.get? b = some u → h'.get? b = some u) (hp : h.objs.size ≤ a) (hn : H a = none) : Un fs ex H (upd H a o) h h' where
  keep := fun b u q _ _ _ => k b u q
  slot := fun b u q _ _ _ => ⟨u.slots, k b u q⟩
  free := fun b u q n _ => by rw [upd_ne (Nat.ne_of_lt (Nat.lt_of_lt_of_le (Heap.lt_size q) hp))]; exact n
  there := fun b u q _ => ⟨u, k b u q⟩
  tups := fun b xs q => by rw [upd_ne (ne_of_none q hn)]; exact q
  frzs := fun b u xs q => by rw [upd_ne (ne_of_none q hn)]; exact q
  tbls := fun b ps q => ⟨#[], by rw [upd_ne (ne_of_none q hn), q]; simp⟩
theorem Un.write (mu : Mut (H x)) (he : e = x ∨ H e = some (.own x)) (k : ∀ b u, b ≠ e → h.get? b = some u → h'.get? b = some u) (heo : ∃ u, h'.get? e = some u) : Un fs ex H (upd H x o) h h' := by
  have hx : ∀ b, H b = none → b ≠ x := fun b n z => by subst z; rw [n] at mu; exact mu
  have hb : ∀ b, H b = none → b ≠ e := fun b n z => by
    subst z
    rcases he with r | r
    · exact hx b n r
    · rw [n] at r; cases r
  have hm : ∀ b u, H b = some u → ¬ Mut (some u) → b ≠ x := fun b u q nm z => by subst z; rw [q] at mu; exact nm mu
  refine ⟨fun b u q n _ _ => k b u (hb b n) q, fun b u q n _ _ => ⟨u.slots, k b u (hb b n) q⟩, fun b u q n _ => by rw [upd_ne (hx b n)]; exact n, fun b u q _ => ?_,
    fun b xs q => by rw [upd_ne (hm b _ q fun z => z)]; exact q, fun b u xs q => by rw [upd_ne (hm b _ q fun z => z)]; exact q, fun b ps q => ⟨#[], by rw [upd_ne (hm b _ q fun z => z), q]; simp⟩⟩
  by_cases hbe : b = e
  · subst hbe; exact heo
  · exact ⟨u, k b u hbe q⟩
end
def trk (h : Heap) (H : Hp) : List Addr := (List.range h.objs.size).filter fun a => (H a).isSome
def hidT (h : Heap) (H : Hp) : Heap := PySem.W.hideAll h (trk h H)
theorem hidT_size (h : Heap) (H : Hp) : (hidT h H).objs.size = h.objs.size := PySem.W.hideAll_size _ _
theorem hidT_get {h : Heap} {H : Hp} {b : Addr} {o : Obj} (e : h.get? b = some o) (n : H b = none) : (hidT h H).get? b = some o :=
  PySem.W.hideAll_get _ e fun hm => by
    have q : (H b).isSome = true := (List.mem_filter.mp hm).2
    rw [n] at q; simp at q
theorem of_hidT {h : Heap} {H : Hp} {b : Addr} {o : Obj} (e : (hidT h H).get? b = some o) : h.get? b = some o ∧ H b = none := by
  have e' : h.get? b = some o := PySem.W.of_hideAll (trk h H) e
  refine ⟨e', ?_⟩
  cases q : H b with
  | none => rfl
  | some x =>
    have hm : b ∈ trk h H := List.mem_filter.mpr ⟨List.mem_range.mpr (Heap.lt_size e'), by simp [q]⟩
    have z : (hidT h H).get? b = none := PySem.W.hideAll_none (trk h H) hm
    rw [z] at e; cases e
end L2
namespace L2
open PySem PySem.Spec PyProof.Rows
structure Mod (K : PySem.W.Frag) (mg : Str → Option Value) (base : Heap) : Prop where
  kin : K.In base
  glob : base.Ns mainGlobals mg
  blt : ∃ mb, base.Ns builtinsNs mb ∧ ∀ x : Str, x ≠ "__name__" → mb x = bootBuiltins x
  nolimit : base.NoLimit
structure Cx where
  prog : Program
  w : World
  K : PySem.W.Frag
  mg : Str → Option Value
  base : Heap
  A : Around
  N : List Str
  s_0 : Shared
  H_0 : Hp
  env : Env
  outer : List Env
  stack : List Env
  ex : List Addr
  fn : Str → Bool
  calm : Bool
  pn : List (Addr × Obj)
  xe : Value → Shared → Prop
def frs (l : List Env) : List Addr := l.filterMap (·.frame)
abbrev Cx.fs (X : Cx) : List Addr := frs X.outer
def Vis (sc : Scope) (x : Str) : Prop := sc.names.lookup x = some .local ∨ sc.names.lookup x = some .cell ∨ sc.names.lookup x = some .free
def Loc (sc : Scope) (x : Str) : Prop := sc.names.lookup x = some .local ∨ sc.names.lookup x = some .cell
def Look (env : Env) (h : Heap) (m : Str → Option Value) (x : Str) (u : Value) : Prop :=
  (env.kindOf x = some .local ∧ m x = some u) ∨ ((env.kindOf x = some .cell ∨ env.kindOf x = some .free) ∧ ∃ c, env.cells.lookup x = some c ∧ h.IsCell c (some u))
structure Cx.Ok (X : Cx) : Prop where
  mod : Mod X.K X.mg X.base
  kind : X.env.scope.kind = .function
  glob : X.env.globals = mainGlobals
  blt : X.env.builtins = builtinsNs
  above : X.s_0.heap.objs.size ≤ X.env.locals
  inj : ∀ x y c, X.env.cells.lookup x = some c → X.env.cells.lookup y = some c → x = y
  has : ∀ x, (X.env.kindOf x = some .cell ∨ X.env.kindOf x = some .free) → ∃ c, X.env.cells.lookup x = some c
  cab : ∀ x c, X.fn x = true → X.env.cells.lookup x = some c → X.s_0.heap.objs.size ≤ c
  hd : X.calm = true → X.A.handled = none
  frames : X.A.frames = some X.stack
  stk : X.stack = X.outer ∨ (X.stack = X.env :: X.outer ∧ X.env.frame = some X.env.locals)
  exf : ∀ b ∈ X.ex, b ≠ X.env.locals ∧ ∀ x c, X.env.cells.lookup x = some c → c ≠ b
  bs : ∀ b o, X.base.get? b = some o → X.s_0.heap.get? b = some o ∧ X.H_0 b = none
  bsz : X.base.objs.size ≤ X.s_0.heap.objs.size
  noex : ∀ b o, X.base.get? b = some o → b ∉ X.ex
  exfs : ∀ b ∈ X.ex, b ∉ X.fs
  funs : X.s_0.heap.FunFrames X.base X.outer
  frf : ∀ b ∈ X.fs, X.H_0 b = none
structure Inv (X : Cx) (pins : List (Addr × Obj)) (σ : List (Option V)) (H : Hp) (s : Shared) : Prop where
  ok : X.Ok
  os : s.os = X.s_0.os
  bare : AllBare s.gens
  base : Un X.fs X.ex X.H_0 H X.s_0.heap s.heap
  loc : ∃ m, s.heap.Ns X.env.locals m ∧ ∀ (i : Nat) (x : Str) (v : V), X.N[i]? = some x → σ[i]? = some (some v) → Vis X.env.scope x → ∃ u, RelV v u ∧ Look X.env s.heap m x u
  cell : ∀ x c, X.env.cells.lookup x = some c → ∃ v, s.heap.IsCell c v
  free : H X.env.locals = none
  freeC : ∀ x c, X.env.cells.lookup x = some c → H c = none
  pin : ∀ p ∈ X.pn ++ pins, s.heap.get? p.1 = some p.2 ∧ H p.1 = none ∧ p.1 ≠ X.env.locals ∧ p.1 ∉ X.fs ∧ ∀ v, p.2.data ≠ .cell v
  hok : HOk X.prog X.w H s.heap
  len : σ.length = X.N.length
section
variable {X : Cx} {pins : List (Addr × Obj)} {σ : List (Option V)} {H H' : Hp} {s : Shared} {h' : Heap}
theorem Cx.Ok.nofr (ok : X.Ok) {b : Addr} {o : Obj} (e : X.base.get? b = some o) : b ∉ X.fs := fun hb => by
  have := (ok.funs.mem hb).1
  rw [e] at this; cases this
theorem Inv.bs (I : Inv X pins σ H s) : ∀ b o, X.base.get? b = some o → s.heap.get? b = some o ∧ H b = none := fun b o e =>
  ⟨I.base.keep b o (I.ok.bs b o e).1 (I.ok.bs b o e).2 (I.ok.nofr e) (I.ok.noex b o e), I.base.free b o (I.ok.bs b o e).1 (I.ok.bs b o e).2 (I.ok.noex b o e)⟩
theorem Inv.bk (I : Inv X pins σ H s) : ∀ b o, X.base.get? b = some o → s.heap.get? b = some o := fun b o e => (I.bs b o e).1
theorem Inv.mod (I : Inv X pins σ H s) : Mod X.K X.mg X.base := I.ok.mod
theorem Inv.kIn (I : Inv X pins σ H s) : X.K.In s.heap := I.ok.mod.kin.keeps I.bk
theorem Inv.lt (I : Inv X pins σ H s) : X.env.locals < s.heap.objs.size := let ⟨_, hn, _⟩ := I.loc; hn.lt
theorem Inv.sz (I : Inv X pins σ H s) : X.s_0.heap.objs.size ≤ s.heap.objs.size := Nat.le_trans I.ok.above (Nat.le_of_lt I.lt)
theorem Inv.nofs (I : Inv X pins σ H s) {a : Addr} (h : s.heap.objs.size ≤ a) : a ∉ X.fs := fun hb => by
  obtain ⟨_, o, ho, _⟩ := I.ok.funs.mem hb
  exact absurd (Nat.lt_of_lt_of_le (Heap.lt_size ho) (Nat.le_trans I.sz h)) (Nat.lt_irrefl _)
theorem Inv.cne (I : Inv X pins σ H s) : ∀ x c, X.env.cells.lookup x = some c → c ≠ X.env.locals := fun x c e z => by
  obtain ⟨v, o, ho, hd⟩ := I.cell x c e
  obtain ⟨m, ⟨o', es, ep, ho', hd', _⟩, _⟩ := I.loc
  rw [z, ho'] at ho; cases ho; rw [hd'] at hd; cases hd
theorem Inv.funs (I : Inv X pins σ H s) : s.heap.FunFrames X.base X.outer := by
  have all : ∀ (l : List Env), (∀ b ∈ frs l, b ∈ X.fs) → X.s_0.heap.FunFrames X.base l → s.heap.FunFrames X.base l := by
    intro l
    induction l with
    | nil => intro _ _; trivial
    | cons env r ih =>
      intro hs hl
      obtain ⟨hk, ⟨L, o, hf, hn, ho, hd⟩, hr⟩ := hl
      have hL : L ∈ X.fs := hs L (by unfold frs; rw [List.filterMap_cons, hf]; exact List.mem_cons_self)
      obtain ⟨sl, e⟩ := I.base.slot L o ho (I.ok.frf L hL) hL fun z => I.ok.exfs L z hL
      exact ⟨hk, ⟨L, _, hf, hn, e, hd⟩, ih (fun b hb => hs b (by unfold frs; rw [List.filterMap_cons, hf]; exact List.mem_cons_of_mem _ hb)) hr⟩
  exact all X.outer (fun _ hb => hb) I.ok.funs
theorem Inv.stack (I : Inv X pins σ H s) : s.heap.FunFrames X.base X.stack := by
  rcases I.ok.stk with e | ⟨e, hf⟩
  · rw [e]; exact I.funs
  · rw [e]
    obtain ⟨m, hn, _⟩ := I.loc
    refine .cons (by rw [I.ok.kind]; decide) hf hn ?_ I.funs
    exact Heap.get?_none_of_le (Nat.le_trans I.ok.bsz I.ok.above)
theorem Inv.stkSub (I : Inv X pins σ H s) : ∀ b ∈ frs X.stack, b ∈ X.env.locals :: X.fs := fun b hb => by
  rcases I.ok.stk with e | ⟨e, hf⟩
  · rw [e] at hb; exact List.mem_cons_of_mem _ hb
  · rw [e] at hb
    unfold frs at hb
    rw [List.filterMap_cons, hf] at hb
    exact hb
theorem Inv.stkFree (I : Inv X pins σ H s) : ∀ b ∈ frs X.stack, H b = none := fun b hb => by
  rcases List.mem_cons.mp (I.stkSub b hb) with e | hb
  · rw [e]; exact I.free
  · obtain ⟨_, o, ho, _⟩ := I.ok.funs.mem hb
    exact I.base.free b o ho (I.ok.frf b hb) fun z => I.ok.exfs b z hb
theorem Inv.step {g' : Array GenState} {t' : Nat} {d' : Drawn} {ch : List Addr} (I : Inv X pins σ H s)
    (hch : ∀ b ∈ ch, (b ∈ X.ex ∨ X.s_0.heap.objs.size ≤ b) ∧ b ≠ X.env.locals ∧ (∀ x c, X.env.cells.lookup x = some c → c ≠ b) ∧ ∀ p ∈ X.pn ++ pins, p.1 ≠ b)
    (keep : ∀ b o, b ≠ X.env.locals → b ∉ X.fs → b ∉ ch → s.heap.get? b = some o → H b = none → h'.get? b = some o)
    (slot : ∀ b o, b ≠ X.env.locals → b ∈ X.fs → b ∉ ch → s.heap.get? b = some o → H b = none → ∃ sl, h'.get? b = some { o with slots := sl }) (free : ∀ b o, b ∉ ch → s.heap.get? b = some o → H b = none → H' b = none)
    (there : ∀ b o, b ∉ ch → s.heap.get? b = some o → ∃ o', h'.get? b = some o')
    (tups : ∀ b xs, H b = some (.tup xs) → H' b = some (.tup xs)) (frzs : ∀ b o u, H b = some (.frz o u) → H' b = some (.frz o u)) (tbls : ∀ b ps, H b = some (.tbl ps) → ∃ more, H' b = some (.tbl (ps ++ more)))
    (ns : ∀ m, s.heap.Ns X.env.locals m → h'.Ns X.env.locals m) (hok : HOk X.prog X.w H' h') (hg : AllBare g') :
    Inv X pins σ H' { s with heap := h', gens := g', drawn := d', toks := t' } := by
  have neL : ∀ b o, X.s_0.heap.get? b = some o → b ≠ X.env.locals := fun b o e => Nat.ne_of_lt (Nat.lt_of_lt_of_le (Heap.lt_size e) I.ok.above)
  have neC : ∀ b o, X.s_0.heap.get? b = some o → b ∉ X.ex → b ∉ ch := fun b o e hx hb => by
    rcases (hch b hb).1 with z | z
    · exact hx z
    · exact absurd (Nat.lt_of_lt_of_le (Heap.lt_size e) z) (Nat.lt_irrefl _)
  have cellK : ∀ x c, X.env.cells.lookup x = some c → ∀ v, s.heap.IsCell c v → h'.IsCell c v := fun x c e v ⟨o, ho, hd⟩ => by
    have nch : c ∉ ch := fun z => (hch c z).2.2.1 x c e rfl
    by_cases hc : c ∈ X.fs
    · obtain ⟨sl, q⟩ := slot c o (I.cne x c e) hc nch ho (I.freeC x c e)
      exact ⟨_, q, hd⟩
    · exact ⟨o, keep c o (I.cne x c e) hc nch ho (I.freeC x c e), hd⟩
  refine ⟨I.ok, I.os, hg, ⟨fun b o e n hb hx => ?_, fun b o e n hb hx => ?_, fun b o e n hx => ?_, fun b o e hx => ?_, fun b xs e => tups b xs (I.base.tups b xs e), fun b o xs e => frzs b o xs (I.base.frzs b o xs e), fun b ps e => ?_⟩, ?_, fun x c e => ?_, ?_, fun x c e => ?_, fun p hp => ?_, hok, I.len⟩
  · exact keep b o (neL b o e) hb (neC b o e hx) (I.base.keep b o e n hb hx) (I.base.free b o e n hx)
  · obtain ⟨sl, e1⟩ := I.base.slot b o e n hb hx
    obtain ⟨sl', e2⟩ := slot b _ (neL b o e) hb (neC b o e hx) e1 (I.base.free b o e n hx)
    exact ⟨sl', e2⟩
  · obtain ⟨o', e1⟩ := I.base.there b o e hx
    exact free b o' (neC b o e hx) e1 (I.base.free b o e n hx)
  · obtain ⟨o', e1⟩ := I.base.there b o e hx
    exact there b o' (neC b o e hx) e1
  · obtain ⟨m1, e1⟩ := I.base.tbls b ps e
    obtain ⟨m2, e2⟩ := tbls b _ e1
    exact ⟨m1 ++ m2, by rw [e2, Array.append_assoc]⟩
  · obtain ⟨m, hn, hl⟩ := I.loc
    refine ⟨m, ns m hn, fun i x v e1 e2 e3 => ?_⟩
    obtain ⟨u, r, l⟩ := hl i x v e1 e2 e3
    refine ⟨u, r, ?_⟩
    rcases l with l | ⟨k, c, e, z⟩
    · exact .inl l
    · exact .inr ⟨k, c, e, cellK x c e _ z⟩
  · obtain ⟨v, z⟩ := I.cell x c e
    exact ⟨v, cellK x c e v z⟩
  · obtain ⟨m, ⟨o, _, _, ho, _⟩, _⟩ := I.loc
    exact free _ o (fun z => (hch _ z).2.1 rfl) ho I.free
  · obtain ⟨v, o, ho, hd⟩ := I.cell x c e
    exact free c o (fun z => (hch c z).2.2.1 x c e rfl) ho (I.freeC x c e)
  · obtain ⟨e, n, ne, nf, d⟩ := I.pin p hp
    have nch : p.1 ∉ ch := fun z => (hch p.1 z).2.2.2 p hp rfl
    exact ⟨keep p.1 p.2 ne nf nch e n, free p.1 p.2 nch e n, ne, nf, d⟩
theorem Inv.un {t' : Nat} (I : Inv X pins σ H s) (u : Un X.fs [] H H' s.heap h') (hok : HOk X.prog X.w H' h') : Inv X pins σ H' { s with heap := h', toks := t' } := by
  obtain ⟨m, ⟨o, es, ep, ho, r⟩, _⟩ := id I.loc
  obtain ⟨sl, hL⟩ := u.any ho I.free (by simp)
  exact I.step (g' := s.gens) (d' := s.drawn) (ch := []) (fun _ z => nomatch z) (fun b o _ hb _ e n => u.keep b o e n hb (by simp)) (fun b o _ hb _ e n => u.slot b o e n hb (by simp)) (fun b o _ e n => u.free b o e n (by simp)) (fun b o _ e => u.there b o e (by simp)) u.tups u.frzs u.tbls (fun m' hm => by
    obtain ⟨o', es', ep', ho', r'⟩ := hm
    rw [ho] at ho'; cases ho'
    exact ⟨_, es', ep', hL, r'⟩) hok I.bare
theorem Inv.call {g' : Array GenState} {t' : Nat} {d' : Drawn} {ch : List Addr} (I : Inv X pins σ H s) (u : Un (frs X.stack) ch H H' s.heap h') (hok : HOk X.prog X.w H' h') (hg : AllBare g')
    (hch : ∀ b ∈ ch, (b ∈ X.ex ∨ X.s_0.heap.objs.size ≤ b) ∧ b ≠ X.env.locals ∧ (∀ x c, X.env.cells.lookup x = some c → c ≠ b) ∧ ∀ p ∈ X.pn ++ pins, p.1 ≠ b) :
    Inv X pins σ H' { s with heap := h', gens := g', drawn := d', toks := t' } := by
  obtain ⟨m, ⟨o, es, ep, ho, r⟩, _⟩ := id I.loc
  obtain ⟨sl, hL⟩ := u.any ho I.free fun z => (hch _ z).2.1 rfl
  exact I.step (ch := ch) hch (fun b o hL hb hc e n => u.keep b o e n (fun z => (List.mem_cons.mp (I.stkSub b z)).elim hL hb) hc) (fun b o _ _ hc e n => u.any e n hc) (fun b o hc e n => u.free b o e n hc) (fun b o hc e => u.there b o e hc) u.tups u.frzs u.tbls (fun m' hm => by
    obtain ⟨o', es', ep', ho', r'⟩ := hm
    rw [ho] at ho'; cases ho'
    exact ⟨_, es', ep', hL, r'⟩) hok hg
theorem Inv.turned {t' : Nat} {it : Addr} (I : Inv X pins σ H s) (k : ∀ b o, b ≠ it → s.heap.get? b = some o → h'.get? b = some o) (hn : H it = none) (hL : it ≠ X.env.locals)
    (h1 : it ∈ X.ex ∨ X.s_0.heap.objs.size ≤ it) (h2 : ∀ x c, X.env.cells.lookup x = some c → c ≠ it) (h3 : ∀ p ∈ X.pn ++ pins, p.1 ≠ it) : Inv X pins σ H { s with heap := h', toks := t' } := by
  have nit : ∀ b u, H b = some u → b ≠ it := fun b u e z => by rw [z, hn] at e; cases e
  refine I.step (g' := s.gens) (d' := s.drawn) (ch := [it]) (fun b hb => ?_) (fun b o _ _ hc e _ => k b o (fun z => hc (by simp [z])) e) (fun b o _ _ hc e _ => ⟨o.slots, k b o (fun z => hc (by simp [z])) e⟩) (fun _ _ _ _ n => n)
    (fun b o hc e => ⟨o, k b o (fun z => hc (by simp [z])) e⟩) (fun _ _ e => e) (fun _ _ _ e => e) (fun b ps e => ⟨#[], by rw [e]; simp⟩) (fun m hm => ?_) (fun b u e => ?_) I.bare
  · have e : b = it := by simpa using hb
    subst e
    exact ⟨h1, hL, h2, h3⟩
  · obtain ⟨o, es, ep, ho, r⟩ := hm
    exact ⟨o, es, ep, k _ o (Ne.symm hL) ho, r⟩
  · refine (I.hok b u e).stay (fun c v hc q => k c v ?_ q) (fun _ q => q) fun _ _ q => q
    rcases hc with z | z
    · rw [z]; exact nit b u e
    · exact nit c _ z
theorem Inv.tok (I : Inv X pins σ H s) (t : Nat) : Inv X pins σ H { s with toks := t } := I.un (h' := s.heap) (t' := t) Un.refl I.hok
theorem Inv.kept {t' : Nat} (I : Inv X pins σ H s) (k : ∀ b u, s.heap.get? b = some u → h'.get? b = some u) : Inv X pins σ H { s with heap := h', toks := t' } := I.un (Un.kept k) (I.hok.kept k)
theorem Inv.laid {a : Addr} {o : HO} {t' : Nat} (I : Inv X pins σ H s) (k : ∀ b u, s.heap.get? b = some u → h'.get? b = some u) (hp : s.heap.objs.size ≤ a) (new : ObjOk X.prog X.w (upd H a o) h' a o) :
    Inv X pins σ (upd H a o) { s with heap := h', toks := t' } := I.un (Un.laid k hp (I.hok.fresh hp)) (I.hok.laid k hp new)
theorem Inv.write {x e : Addr} {o : HO} {t' : Nat} (I : Inv X pins σ H s) (mu : Mut (H x)) (he : e = x ∨ H e = some (.own x)) (k : ∀ b u, b ≠ e → s.heap.get? b = some u → h'.get? b = some u) (heo : ∃ u, h'.get? e = some u)
    (new : ObjOk X.prog X.w (upd H x o) h' x o) : Inv X pins σ (upd H x o) { s with heap := h', toks := t' } := I.un (Un.write mu he k heo) (I.hok.write mu he k heo new)
theorem Inv.weak {σ' : List (Option V)} (I : Inv X pins σ H s) (hl : σ'.length = σ.length) (w : ∀ (i : Nat) v, σ'[i]? = some (some v) → σ[i]? = some (some v)) : Inv X pins σ' H s :=
  ⟨I.ok, I.os, I.bare, I.base, let ⟨m, hn, hl'⟩ := I.loc; ⟨m, hn, fun i x v e1 e2 e3 => hl' i x v e1 (w i v e2) e3⟩, I.cell, I.free, I.freeC, I.pin, I.hok, hl.trans I.len⟩
theorem Inv.pins_of {pins' : List (Addr × Obj)} (I : Inv X pins σ H s) (h : ∀ p ∈ pins', s.heap.get? p.1 = some p.2 ∧ H p.1 = none ∧ p.1 ≠ X.env.locals ∧ p.1 ∉ X.fs ∧ ∀ v, p.2.data ≠ .cell v) : Inv X pins' σ H s :=
  ⟨I.ok, I.os, I.bare, I.base, I.loc, I.cell, I.free, I.freeC, fun p hp => (List.mem_append.mp hp).elim (fun z => I.pin p (List.mem_append_left _ z)) (h p), I.hok, I.len⟩
theorem nodup_ix {N : List Str} (hN : N.Nodup) {i j : Nat} {x : Str} (a : N[i]? = some x) (b : N[j]? = some x) : i = j := by
  obtain ⟨h1, e1⟩ := List.getElem?_eq_some_iff.mp a
  obtain ⟨h2, e2⟩ := List.getElem?_eq_some_iff.mp b
  exact (List.getElem_inj hN).mp (e1.trans e2.symm)
theorem store_ok2 {M : Model} {A : Around} {E : Value → Shared → Prop} {i : Nat} {x : Str} {v : V} {u : Value} {Q : Unit → Shared → Prop} (I : Inv X pins σ H s) (hN : X.N.Nodup) (hi : X.N[i]? = some x) (hx : Loc X.env.scope x) (r : RelV v u)
    (h : ∀ s', Inv X pins (σ.set i (some v)) H s' → (∃ a, Heap.SameBut a s.heap s'.heap ∧ (a = X.env.locals ∨ X.env.cells.lookup x = some a)) → Q () s') (hf : X.fn x = true ∨ X.env.scope.names.lookup x = some .local := by first | exact .inl rfl | exact .inr rfl | assumption) : wpAny M A (storeName X.env x u) Q E s := by
  obtain ⟨m, hn, hl⟩ := id I.loc
  have hcls : (X.env.scope.kind == .class || (X.env.scope.kind == .module && X.env.locals != X.env.globals)) = false := by rw [I.ok.kind]; rfl
  have hiσ : i < σ.length := by rw [I.len]; exact (List.getElem?_eq_some_iff.mp hi).1
  have cne := I.cne
  have tracked : ∀ {a : Addr} {h' : Heap}, (∃ o, s.heap.get? a = some o ∧ H a = none) → Heap.SameBut a s.heap h' → HOk X.prog X.w H h' := fun {a h'} ha hs b ob e => by
    obtain ⟨_, _, hfree⟩ := ha
    refine (I.hok b ob e).stay (fun c w' hc q => (hs.2 c ?_).trans q) (fun _ q => q) fun _ _ q => q
    rintro rfl
    rcases hc with rfl | hc
    · rw [hfree] at e; cases e
    · rw [hfree] at hc; cases hc
  rcases hx with hk | hk
  · refine wpAny_storeName_local hk hn (fun h' hn' hs => ?_) hcls
    obtain ⟨oL, _, _, hoL, _⟩ := id hn
    refine h _ ⟨I.ok, I.os, I.bare, ⟨fun b o e n hb hx => ?_, fun b o e n hb hx => ?_, I.base.free, fun b o e hx => ?_, I.base.tups, I.base.frzs, I.base.tbls⟩, ⟨_, hn', fun j y v' e1 e2 e3 => ?_⟩, fun y c e => ?_, I.free, I.freeC, fun p hp => ?_, tracked ⟨oL, hoL, I.free⟩ hs, by simpa using I.len⟩ ⟨_, hs, .inl rfl⟩
    · exact (hs.2 b (Nat.ne_of_lt (Nat.lt_of_lt_of_le (Heap.lt_size e) I.ok.above))).trans (I.base.keep b o e n hb hx)
    · obtain ⟨sl, e1⟩ := I.base.slot b o e n hb hx
      exact ⟨sl, (hs.2 b (Nat.ne_of_lt (Nat.lt_of_lt_of_le (Heap.lt_size e) I.ok.above))).trans e1⟩
    · obtain ⟨o', e1⟩ := I.base.there b o e hx
      exact ⟨o', (hs.2 b (Nat.ne_of_lt (Nat.lt_of_lt_of_le (Heap.lt_size e) I.ok.above))).trans e1⟩
    · by_cases hj : j = i
      · subst hj
        rw [hi] at e1; cases e1
        rw [List.getElem?_set_self hiσ] at e2
        cases e2
        exact ⟨u, r, .inl ⟨hk, by simp⟩⟩
      · rw [List.getElem?_set_ne (Ne.symm hj)] at e2
        obtain ⟨u', r', q⟩ := hl j y v' e1 e2 e3
        refine ⟨u', r', ?_⟩
        rcases q with ⟨k, e⟩ | ⟨k, c, e, z⟩
        · refine .inl ⟨k, ?_⟩
          have : y ≠ x := fun e => hj (nodup_ix hN e1 (e ▸ hi))
          simp [this, e]
        · exact .inr ⟨k, c, e, z.sameBut hs (cne y c e)⟩
    · obtain ⟨w', z⟩ := I.cell y c e
      exact ⟨w', z.sameBut hs (cne y c e)⟩
    · obtain ⟨e, n, ne, nf, d⟩ := I.pin p hp
      exact ⟨(hs.2 p.1 ne).trans e, n, ne, nf, d⟩
  · have hfn : X.fn x = true := by
      rcases hf with z | z
      · exact z
      · rw [z] at hk; cases hk
    obtain ⟨c, hc⟩ := I.ok.has x (.inl hk)
    obtain ⟨w', z⟩ := I.cell x c hc
    refine wpAny_storeName_cell I.ok.kind hk hc z (fun h' hc' hs => ?_)
    obtain ⟨oc, hoc, hocd⟩ := id z
    refine h { s with heap := h' } ⟨I.ok, I.os, I.bare, ⟨fun b o e n hb hx => ?_, fun b o e n hb hx => ?_, I.base.free, fun b o e hx => ?_, I.base.tups, I.base.frzs, I.base.tbls⟩, ⟨m, hn.sameBut hs (Ne.symm (cne x c hc)), fun j y v' e1 e2 e3 => ?_⟩, fun y c' e => ?_, I.free, I.freeC, fun p hp => ?_, tracked ⟨oc, hoc, I.freeC x c hc⟩ hs, by simpa using I.len⟩ ⟨c, hs, .inr hc⟩
    · exact (hs.2 b (Nat.ne_of_lt (Nat.lt_of_lt_of_le (Heap.lt_size e) (I.ok.cab x c hfn hc)))).trans (I.base.keep b o e n hb hx)
    · obtain ⟨sl, e1⟩ := I.base.slot b o e n hb hx
      exact ⟨sl, (hs.2 b (Nat.ne_of_lt (Nat.lt_of_lt_of_le (Heap.lt_size e) (I.ok.cab x c hfn hc)))).trans e1⟩
    · obtain ⟨o', e1⟩ := I.base.there b o e hx
      exact ⟨o', (hs.2 b (Nat.ne_of_lt (Nat.lt_of_lt_of_le (Heap.lt_size e) (I.ok.cab x c hfn hc)))).trans e1⟩
    · by_cases hj : j = i
      · subst hj
        rw [hi] at e1; cases e1
        rw [List.getElem?_set_self hiσ] at e2
        cases e2
        exact ⟨u, r, .inr ⟨.inl hk, c, hc, hc'⟩⟩
      · rw [List.getElem?_set_ne (Ne.symm hj)] at e2
        obtain ⟨u', r', q⟩ := hl j y v' e1 e2 e3
        refine ⟨u', r', ?_⟩
        rcases q with q | ⟨k, c', e, z'⟩
        · exact .inl q
        · refine .inr ⟨k, c', e, z'.sameBut hs ?_⟩
          rintro rfl
          exact hj (nodup_ix hN e1 (I.ok.inj _ _ _ e hc ▸ hi))
    · by_cases hcc : c' = c
      · subst hcc; exact ⟨_, hc'⟩
      · obtain ⟨w2, z2⟩ := I.cell y c' e
        exact ⟨w2, z2.sameBut hs hcc⟩
    · obtain ⟨e, n, ne, nf, d⟩ := I.pin p hp
      refine ⟨(hs.2 p.1 ?_).trans e, n, ne, nf, d⟩
      intro q
      rw [q, hoc] at e
      have q' : oc = p.2 := Option.some.inj e
      exact d w' (by rw [← q']; exact hocd)
theorem store_ok {M : Model} {A : Around} {E : Value → Shared → Prop} {i : Nat} {x : Str} {v : V} {u : Value} {Q : Unit → Shared → Prop} (I : Inv X pins σ H s) (hN : X.N.Nodup) (hi : X.N[i]? = some x) (hx : Loc X.env.scope x) (r : RelV v u)
    (h : ∀ s', Inv X pins (σ.set i (some v)) H s' → Q () s') (hf : X.fn x = true ∨ X.env.scope.names.lookup x = some .local := by first | exact .inl rfl | exact .inr rfl | assumption) : wpAny M A (storeName X.env x u) Q E s :=
  store_ok2 I hN hi hx r (fun s' I' _ => h s' I') hf
theorem Inv.call' {s' : Shared} {ch : List Addr} (I : Inv X pins σ H s) (ho : s'.os = s.os) (u : Un (frs X.stack) ch H H' s.heap s'.heap) (hok : HOk X.prog X.w H' s'.heap) (hg : AllBare s'.gens)
    (hch : ∀ b ∈ ch, (b ∈ X.ex ∨ X.s_0.heap.objs.size ≤ b) ∧ b ≠ X.env.locals ∧ (∀ x c, X.env.cells.lookup x = some c → c ≠ b) ∧ ∀ p ∈ X.pn ++ pins, p.1 ≠ b) : Inv X pins σ H' s' := by
  obtain ⟨h', g', d', t', o'⟩ := s'
  have e : o' = s.os := ho
  subst e
  exact I.call (g' := g') (t' := t') (d' := d') u hok hg hch
end
abbrev XK := Value → Option Addr → Hp → Prop
abbrev St := List (Option V)
abbrev VK := V → Hp → Prop
abbrev TE := St → Hp → VK → Prop
abbrev TT := St → Hp → (Bool → Hp → Prop) → Prop
abbrev TA := St → Hp → (List V → Hp → Prop) → Prop
structure Ends where
  nx : St → Hp → Prop
  rt : VK
  bk : St → Hp → Prop := fun _ _ => False
  ct : St → Hp → Prop := fun _ _ => False
abbrev TS := Ends → St → Hp → Prop
def EP (X : Cx) (pins : List (Addr × Obj)) (σ : St) (Q : VK) (u : Value) (s' : Shared) : Prop := ∃ v H', Inv X pins σ H' s' ∧ RelV v u ∧ Q v H'
def TP (X : Cx) (pins : List (Addr × Obj)) (σ : St) (Q : Bool → Hp → Prop) (b : Bool) (s' : Shared) : Prop := ∃ H', Inv X pins σ H' s' ∧ Q b H'
def AP (X : Cx) (pins : List (Addr × Obj)) (σ : St) (Q : List V → Hp → Prop) (us : List Value) (s' : Shared) : Prop := ∃ vs H', Inv X pins σ H' s' ∧ Vals vs us ∧ Q vs H'
def SP (X : Cx) (pins : List (Addr × Obj)) (D : Ends) (f : Flow) (s' : Shared) : Prop :=
  match f with
  | .next => ∃ σ' H', Inv X pins σ' H' s' ∧ D.nx σ' H'
  | .brk => ∃ σ' H', Inv X pins σ' H' s' ∧ D.bk σ' H'
  | .cont => ∃ σ' H', Inv X pins σ' H' s' ∧ D.ct σ' H'
  | .ret u => ∃ v σ' H', Inv X pins σ' H' s' ∧ RelV v u ∧ D.rt v H'
def PE (X : Cx) (e : Expr) (t : TE) : Prop :=
  ∀ (pins : List (Addr × Obj)) (s : Shared) (σ : St) (H : Hp) (Q : VK), Inv X pins σ H s → t σ H Q → wpAny (model X.prog X.w) X.A (eval e X.env) (EP X pins σ Q) X.xe s
def PT (X : Cx) (e : Expr) (t : TT) : Prop :=
  ∀ (pins : List (Addr × Obj)) (s : Shared) (σ : St) (H : Hp) (Q : Bool → Hp → Prop), Inv X pins σ H s → t σ H Q → wpAny (model X.prog X.w) X.A (isTrue e X.env (eval e X.env)) (TP X pins σ Q) X.xe s
def PW (X : Cx) (e : Expr) (t : TT) : Prop :=
  ∀ (whole : Sem Value) (pins : List (Addr × Obj)) (s : Shared) (σ : St) (H : Hp) (Q : Bool → Hp → Prop), Inv X pins σ H s → t σ H Q → wpAny (model X.prog X.w) X.A (isTrue e X.env whole) (TP X pins σ Q) X.xe s
theorem PW.pt {X : Cx} {e : Expr} {t : TT} (h : PW X e t) : PT X e t := h _
def PA (X : Cx) (es : List Expr) (t : TA) : Prop :=
  ∀ (pos : Pos) (pins : List (Addr × Obj)) (s : Shared) (σ : St) (H : Hp) (Q : List V → Hp → Prop), Inv X pins σ H s → t σ H Q → wpAny (model X.prog X.w) X.A (spliced (backTo pos (starEach es X.env))) (AP X pins σ Q) X.xe s
def PS (X : Cx) (st : Stmt) (t : TS) : Prop :=
  ∀ (pins : List (Addr × Obj)) (s : Shared) (σ : St) (H : Hp) (D : Ends), Inv X pins σ H s → t D σ H → wpAny (model X.prog X.w) X.A (exec st X.env) (SP X pins D) X.xe s
def PSs (X : Cx) (st : List Stmt) (t : TS) : Prop :=
  ∀ (pins : List (Addr × Obj)) (s : Shared) (σ : St) (H : Hp) (D : Ends), Inv X pins σ H s → t D σ H → wpAny (model X.prog X.w) X.A (execs st X.env) (SP X pins D) X.xe s
theorem thn {α : Type} {t : Sem α} {Q Q' : α → Shared → Prop} {M : Model} {A : Around} {E : Value → Shared → Prop} {s : Shared} (h : wpAny M A t Q E s) (hQ : ∀ a s, Q a s → Q' a s) : wpAny M A t Q' E s := wpAny_mono h hQ fun _ _ x => x
end L2
namespace L2
open PySem PySem.Spec PyProof.Rows
section
variable {X : Cx}
def tVar (i : Nat) : TE := fun σ H Q => ∃ v, σ[i]? = some (some v) ∧ Q v H
def tC (v : V) : TE := fun _ H Q => Q v H
theorem pe_var {i : Nat} {x : Str} {pos : Pos} (hN : X.N[i]? = some x) (hv : Vis X.env.scope x) (hd : (x == ("__debug__" : Str)) = false := by decide) (hcd : (x == ("__classdict__" : Str)) = false := by decide) : PE X (.Name x pos) (tVar i) := by
  intro pins s σ H Q I h
  obtain ⟨v, e, h⟩ := h
  obtain ⟨m, hn, hl⟩ := I.loc
  obtain ⟨u, r, l⟩ := hl i x v hN e hv
  have fin : EP X pins σ Q u s := ⟨v, H, I, r, h⟩
  rcases l with ⟨hk, hm⟩ | ⟨hk, c, hc, hcell⟩
  · exact wpAny_Name (wpAny_loadName_local I.ok.kind hk hn hm fin) hd
  · rcases hk with hk | hk
    · exact wpAny_Name (wpAny_loadName_cell I.ok.kind hk hc hcell fin) hd
    · exact wpAny_Name (wpAny_loadName_free I.ok.kind hk hc hcell fin hcd) hd
theorem pe_int {i j pos} : PE X (.Constant (.int i) j pos) (tC (.int i)) := fun _ _ _ H _ I h => wpAny_Constant_int ⟨.int i, H, I.tok _, ⟨_, rfl⟩, h⟩
theorem pe_bl {b j pos} : PE X (.Constant (.bool b) j pos) (tC (.bl b)) := fun _ _ _ H _ I h => Constant_bool ⟨.bl b, H, I, rfl, h⟩
def Gl (X : Cx) (x : Str) : Prop := X.env.kindOf x = some .globalImplicit
theorem ld_glob {E : Value → Shared → Prop} {pins : List (Addr × Obj)} {s : Shared} {σ : St} {H : Hp} {x : Str} {u : Value} {pos : Pos} {Q : Value → Shared → Prop} (I : Inv X pins σ H s) (hg : Gl X x) (hm : X.mg x = some u) (h : Q u s)
    (hd : (x == ("__debug__" : Str)) = false := by decide) : wpAny (model X.prog X.w) X.A (eval (.Name x pos) X.env) Q E s :=
  Calls.Name_function_global I.ok.kind hg (Calls.loadGlobal_global (by rw [I.ok.glob]; exact I.mod.glob.keeps I.bk) hm h) hd
theorem ld_blt {E : Value → Shared → Prop} {pins : List (Addr × Obj)} {s : Shared} {σ : St} {H : Hp} {x : Str} {u : Value} {pos : Pos} {Q : Value → Shared → Prop} (I : Inv X pins σ H s) (hg : Gl X x) (hm : X.mg x = none) (hv : bootBuiltins x = some u) (h : Q u s)
    (hn : x ≠ "__name__" := by decide) (hd : (x == ("__debug__" : Str)) = false := by decide) : wpAny (model X.prog X.w) X.A (eval (.Name x pos) X.env) Q E s := by
  obtain ⟨mb, h1, h2⟩ := I.mod.blt
  exact Calls.Name_function_global I.ok.kind hg (Calls.loadGlobal_builtin (by rw [I.ok.glob]; exact I.mod.glob.keeps I.bk) hm (by rw [I.ok.blt]; exact h1.keeps I.bk) ((h2 x hn).trans hv) h) hd
theorem pe_glob {x : Str} {v : V} {u : Value} {pos : Pos} (hg : Gl X x) (hm : X.mg x = some u) (r : RelV v u) (hd : (x == ("__debug__" : Str)) = false := by decide) : PE X (.Name x pos) (tC v) :=
  fun _ _ _ H _ I h => ld_glob I hg hm ⟨v, H, I, r, h⟩ hd
variable {a b : Expr} {ta tb : TE} {pos : Pos}
def tB (t : TE) : TT := fun σ H Q => t σ H fun x H1 => ∃ c, x = .bl c ∧ Q c H1
theorem pt_val {e : Expr} {t : TE} (h : PE X e t) (he : ∀ whole, isTrue e X.env whole = (do let v ← whole; standAt e.pos; holding [v] (truthy v)) := by intro _; rfl) : PT X e (tB t) := by
  intro pins s σ H Q I hw
  refine isTrue_plain (thn (h pins s σ H _ I hw) fun v s1 ⟨x, H1, I1, r1, q1⟩ => ?_) (he _)
  obtain ⟨d, rfl, q⟩ := q1
  cases r1
  exact wpAny_truthy_bool ⟨H1, I1, q⟩
variable {tA tB' : TT} {rest : List Expr}
def tAnd (t u : TT) : TT := fun σ H Q => t σ H fun c H1 => if c = true then u σ H1 Q else Q false H1
def tOr (t u : TT) : TT := fun σ H Q => t σ H fun c H1 => if c = true then Q true H1 else u σ H1 Q
def tNot (t : TT) : TT := fun σ H Q => t σ H fun c H1 => Q (!c) H1
theorem pw_and1 (ha : PT X a tA) : PW X (.BoolOp .And [a] pos) tA := by
  intro wh pins s σ H Q I h
  refine isTrue_and (thn (ha pins s σ H Q I h) fun c s1 e => ?_)
  cases c with
  | true => exact isTrue_and_nil e
  | false => exact e
theorem pw_or1 (ha : PT X a tA) : PW X (.BoolOp .Or [a] pos) tA := by
  intro wh pins s σ H Q I h
  refine isTrue_or (thn (ha pins s σ H Q I h) fun c s1 e => ?_)
  cases c with
  | false => exact isTrue_or_nil e
  | true => exact e
theorem pw_and (ha : PT X a tA) (hb : PW X (.BoolOp .And (b :: rest) pos) tB') : PW X (.BoolOp .And (a :: b :: rest) pos) (tAnd tA tB') := by
  intro wh pins s σ H Q I h
  refine isTrue_and (thn (ha pins s σ H _ I h) fun c s1 ⟨H1, I1, q1⟩ => ?_)
  cases c with
  | true => exact hb wh pins s1 σ H1 Q I1 q1
  | false => exact ⟨H1, I1, q1⟩
theorem pw_or (ha : PT X a tA) (hb : PW X (.BoolOp .Or (b :: rest) pos) tB') : PW X (.BoolOp .Or (a :: b :: rest) pos) (tOr tA tB') := by
  intro wh pins s σ H Q I h
  refine isTrue_or (thn (ha pins s σ H _ I h) fun c s1 ⟨H1, I1, q1⟩ => ?_)
  cases c with
  | true => exact ⟨H1, I1, q1⟩
  | false => exact hb wh pins s1 σ H1 Q I1 q1
theorem pt_not (ha : PT X a tA) : PT X (.UnaryOp .Not a pos) (tNot tA) := by
  intro pins s σ H Q I h
  exact isTrue_not (ha pins s σ H (fun c H1 => Q (!c) H1) I h)
def tAndV (ta tb : TE) : TE := fun σ H Q => ta σ H fun x H1 => ∃ c, x = .bl c ∧ if c = true then tb σ H1 Q else Q (.bl false) H1
def tOrV (ta tb : TE) : TE := fun σ H Q => ta σ H fun x H1 => ∃ c, x = .bl c ∧ if c = true then Q (.bl true) H1 else tb σ H1 Q
def tNotV (ta : TE) : TE := fun σ H Q => ta σ H fun x H1 => ∃ c, x = .bl c ∧ Q (.bl (!c)) H1
theorem pe_one {op} {t : TE} (h : PE X a t) : PE X (.BoolOp op [a] pos) t := fun pins s σ H Q I hw => BoolOp_one (h pins s σ H Q I hw)
theorem pe_and (ha : PE X a ta) (hb : PE X (.BoolOp .And (b :: rest) pos) tb) : PE X (.BoolOp .And (a :: b :: rest) pos) (tAndV ta tb) := by
  intro pins s σ H Q I h
  refine BoolOp_and (thn (ha pins s σ H _ I h) fun v s1 ⟨x, H1, I1, r1, q1⟩ => ?_)
  obtain ⟨c, rfl, q1⟩ := q1
  cases r1
  refine wpAny_truthy_bool ?_
  cases c with
  | true => exact hb pins s1 σ H1 Q I1 q1
  | false => exact ⟨.bl false, H1, I1, rfl, q1⟩
theorem pe_or (ha : PE X a ta) (hb : PE X (.BoolOp .Or (b :: rest) pos) tb) : PE X (.BoolOp .Or (a :: b :: rest) pos) (tOrV ta tb) := by
  intro pins s σ H Q I h
  refine BoolOp_or (thn (ha pins s σ H _ I h) fun v s1 ⟨x, H1, I1, r1, q1⟩ => ?_)
  obtain ⟨c, rfl, q1⟩ := q1
  cases r1
  refine wpAny_truthy_bool ?_
  cases c with
  | false => exact hb pins s1 σ H1 Q I1 q1
  | true => exact ⟨.bl true, H1, I1, rfl, q1⟩
theorem pe_not (ha : PE X a ta) : PE X (.UnaryOp .Not a pos) (tNotV ta) := by
  intro pins s σ H Q I h
  refine UnaryOp_ (thn (ha pins s σ H _ I h) fun v s1 ⟨x, H1, I1, r1, q1⟩ => ?_)
  obtain ⟨c, rfl, q1⟩ := q1
  cases r1
  exact not_of (wpAny_truthy_bool ⟨.bl (!c), H1, I1, rfl, q1⟩)
def tIf (t : TT) (ta tb : TE) : TE := fun σ H Q => t σ H fun c H1 => if c = true then ta σ H1 Q else tb σ H1 Q
theorem pe_ifExp {c : Expr} (hc : PT X c tA) (ha : PE X a ta) (hb : PE X b tb) : PE X (.IfExp c a b pos) (tIf tA ta tb) := by
  intro pins s σ H Q I h
  refine wpAny_IfExp (thn (hc pins s σ H _ I h) fun d s1 ⟨H1, I1, q1⟩ => ?_)
  cases d with
  | true => exact ha pins s1 σ H1 Q I1 q1
  | false => exact hb pins s1 σ H1 Q I1 q1
end
end L2
namespace L2
open PySem PySem.Spec PyProof.Rows
def SqL (K : PySem.W.Frag) (H : Hp) (a : Addr) (xs : List V) : Prop :=
  Rd H a (.lst xs) ∨
    ∃ (o : Obj) (its : Array Value) (n : Nat), K.lookup a = some o ∧ o.cls = .type "list" ∧ o.dict = none ∧ o.data = .seq its n ∧ its.size ≤ sizeLine ∧ Vals xs its.toList
def SqT (K : PySem.W.Frag) (H : Hp) (a : Addr) (xs : List V) : Prop :=
  Rd H a (.tup xs) ∨
    ∃ (o : Obj) (its : Array Value) (n : Nat), K.lookup a = some o ∧ o.cls = .type "tuple" ∧ o.data = .seq its n ∧ its.size ≤ sizeLine ∧ Vals xs its.toList
def absV : Value → Option V
  | .none => some .non
  | .bool b => some (.bl b)
  | .int i _ => some (.int i)
  | .str x _ => some (.str x)
  | .bytes b _ => some (.byt b)
  | .float b _ => some (.flt b)
  | .ref a => some (.ref a)
  | .type n => some (.ty n)
  | _ => none
theorem RelV.abs {x : V} {u : Value} (r : RelV x u) : absV u = some x := by
  cases x with
  | non => cases r; rfl
  | bl _ => cases r; rfl
  | int _ => obtain ⟨t, rfl⟩ := r; rfl
  | str _ => obtain ⟨t, rfl⟩ := r; rfl
  | byt _ => obtain ⟨t, rfl⟩ := r; rfl
  | flt _ => obtain ⟨t, rfl⟩ := r; rfl
  | ref _ => cases r; rfl
  | ty _ => cases r; rfl
theorem RelV.inj {x y : V} {u : Value} (r : RelV x u) (q : RelV y u) : x = y := Option.some.inj (r.abs.symm.trans q.abs)
theorem Vals.inj : ∀ {xs ys : List V} {us : List Value}, Vals xs us → Vals ys us → xs = ys
  | _, _, _, .nil, .nil => rfl
  | _, _, _, .cons r t, .cons r' t' => by rw [r.inj r', Vals.inj t t']
section
variable {X : Cx} {pins : List (Addr × Obj)} {σ : St} {H : Hp} {s : Shared} {a : Addr} {xs ys : List V}
theorem SqL.of {K : PySem.W.Frag} (h : H a = some (.lst xs)) : SqL K H a xs := .inl (.inl h)
theorem SqT.of {K : PySem.W.Frag} (h : H a = some (.tup xs)) : SqT K H a xs := .inl (.inl h)
theorem Inv.list (I : Inv X pins σ H s) (h : SqL X.K H a xs) : ∃ its : List Value, Vals xs its ∧ PlainL s.heap a its.toArray ∧ xs.length ≤ sizeLine := by
  rcases h with h | ⟨o, its, n, hk, hc, hd, hs, hz, r⟩
  · obtain ⟨z, its, n, r, e⟩ := h.ok I.hok
    exact ⟨its, r, ⟨_, n, e, rfl, rfl, rfl⟩, z⟩
  · refine ⟨its.toList, r, ⟨o, n, I.kIn a o hk, hc, hd, by simpa using hs⟩, ?_⟩
    have e := r.length
    simp only [Array.length_toList] at e
    omega
theorem Inv.tuple (I : Inv X pins σ H s) (h : SqT X.K H a xs) : ∃ its : List Value, Vals xs its ∧ IsTup s.heap a its.toArray ∧ xs.length ≤ sizeLine := by
  rcases h with h | ⟨o, its, n, hk, hc, hs, hz, r⟩
  · obtain ⟨z, its, r, p⟩ := h.ok I.hok
    exact ⟨its, r, p, z⟩
  · refine ⟨its.toList, r, ⟨o, I.kIn a o hk, hc, n, by simpa using hs⟩, ?_⟩
    have e := r.length
    simp only [Array.length_toList] at e
    omega
theorem Inv.list_inj (I : Inv X pins σ H s) (h : SqL X.K H a xs) (h' : SqL X.K H a ys) : xs = ys := by
  obtain ⟨its, r, ⟨o, n, e, _, _, d⟩, _⟩ := I.list h
  obtain ⟨its', r', ⟨o', n', e', _, _, d'⟩, _⟩ := I.list h'
  rw [e] at e'; cases e'
  rw [d] at d'
  injection d' with d1 _
  have : its = its' := by simpa using congrArg Array.toList d1
  subst this
  exact r.inj r'
theorem Inv.tuple_inj (I : Inv X pins σ H s) (h : SqT X.K H a xs) (h' : SqT X.K H a ys) : xs = ys := by
  obtain ⟨its, r, ⟨o, e, _, n, d⟩, _⟩ := I.tuple h
  obtain ⟨its', r', ⟨o', e', _, n', d'⟩, _⟩ := I.tuple h'
  rw [e] at e'; cases e'
  rw [d] at d'
  injection d' with d1 _
  have : its = its' := by simpa using congrArg Array.toList d1
  subst this
  exact r.inj r'
end
abbrev Cx.wish (X : Cx) (E : Value → Shared → Prop) : Cx := { X with xe := E }
abbrev Cx.nox (X : Cx) : Cx := X.wish fun _ _ => False
theorem Cx.Ok.wish {X : Cx} (ok : X.Ok) (E : Value → Shared → Prop) : (X.wish E).Ok :=
  ⟨ok.mod, ok.kind, ok.glob, ok.blt, ok.above, ok.inj, ok.has, ok.cab, ok.hd, ok.frames, ok.stk, ok.exf, ok.bs, ok.bsz, ok.noex, ok.exfs, ok.funs, ok.frf⟩
theorem Cx.Ok.unwish {X : Cx} {E : Value → Shared → Prop} (ok : (X.wish E).Ok) : X.Ok :=
  ⟨ok.mod, ok.kind, ok.glob, ok.blt, ok.above, ok.inj, ok.has, ok.cab, ok.hd, ok.frames, ok.stk, ok.exf, ok.bs, ok.bsz, ok.noex, ok.exfs, ok.funs, ok.frf⟩
section
variable {X : Cx} {pins : List (Addr × Obj)} {σ : St} {H : Hp} {s : Shared} {E : Value → Shared → Prop}
theorem Inv.wish (I : Inv X pins σ H s) (E : Value → Shared → Prop) : Inv (X.wish E) pins σ H s := ⟨I.ok.wish E, I.os, I.bare, I.base, I.loc, I.cell, I.free, I.freeC, I.pin, I.hok, I.len⟩
theorem Inv.unwish (I : Inv (X.wish E) pins σ H s) : Inv X pins σ H s := ⟨I.ok.unwish, I.os, I.bare, I.base, I.loc, I.cell, I.free, I.freeC, I.pin, I.hok, I.len⟩
theorem SP.unwish {D : Ends} {f : Flow} {s' : Shared} (h : SP (X.wish E) pins D f s') : SP X pins D f s' := by
  cases f with
  | next => obtain ⟨σ', H', I, q⟩ := h; exact ⟨σ', H', I.unwish, q⟩
  | brk => obtain ⟨σ', H', I, q⟩ := h; exact ⟨σ', H', I.unwish, q⟩
  | cont => obtain ⟨σ', H', I, q⟩ := h; exact ⟨σ', H', I.unwish, q⟩
  | ret u => obtain ⟨v, σ', H', I, r, q⟩ := h; exact ⟨v, σ', H', I.unwish, r, q⟩
theorem PSs.nox {st : List Stmt} {t : TS} (h : PSs X.nox st t) : PSs X st t := fun pins s σ H D I hw =>
  wpAny_mono (h pins s σ H D (I.wish _) hw) (fun _ _ q => q.unwish) fun _ _ z => False.elim z
end
section
variable {X : Cx} {st : Stmt} {rest : List Stmt} {t u : TS} {e : Expr} {te : TE} {pos : Pos}
def tNext : TS := fun D σ H => D.nx σ H
def tSeq (t u : TS) : TS := fun D σ H => t { D with nx := u D } σ H
theorem pss_nil : PSs X [] tNext := fun _ _ σ H _ I h => wpAny_execs_nil ⟨σ, H, I, h⟩
theorem pss_cons (h1 : PS X st t) (h2 : PSs X rest u) : PSs X (st :: rest) (tSeq t u) := by
  intro pins s σ H D I h
  refine wpAny_execs_cons (thn (h1 pins s σ H { D with nx := u D } I h) fun f s1 q => ?_)
  cases f with
  | next =>
    obtain ⟨σ', H', I', q⟩ := q
    exact h2 pins s1 σ' H' D I' q
  | ret v => exact q
  | brk => exact q
  | cont => exact q
theorem pss_one (h1 : PS X st t) : PSs X [st] t := by
  intro pins s σ H D I h
  refine wpAny_execs_cons (thn (h1 pins s σ H D I h) fun f s1 q => ?_)
  cases f with
  | next => exact wpAny_execs_nil q
  | ret v => exact q
  | brk => exact q
  | cont => exact q
theorem Inv.quiet {pins : List (Addr × Obj)} {σ : St} {H : Hp} {s : Shared} (I : Inv X pins σ H s) : interactive X.env = false := by simp [interactive, I.ok.kind]
def tDrop (te : TE) : TS := fun D σ H => te σ H fun _ H1 => D.nx σ H1
theorem ps_expr (he : PE X e te) (hs : swapsWith e none pos.line X.env = pure false := by rfl) : PS X (.Expr e pos) (tDrop te) := by
  intro pins s σ H D I h
  exact wpAny_Expr_any (thn (he pins s σ H _ I h) fun v s1 ⟨x, H1, I1, r1, q1⟩ => ⟨σ, H1, I1, q1⟩) I.quiet hs
def tRet (te : TE) : TS := fun D σ H => te σ H D.rt
theorem ps_ret (he : PE X e te) : PS X (.Return (some e) pos) (tRet te) := by
  intro pins s σ H D I h
  exact wpAny_Return_some (thn (he pins s σ H _ I h) fun v s1 ⟨x, H1, I1, r1, q1⟩ => ⟨x, σ, H1, I1, r1, q1⟩)
def tRetN : TS := fun D _ H => D.rt .non H
def tIfS (c : TT) (t u : TS) : TS := fun D σ H => c σ H fun b H1 => if b = true then t D σ H1 else u D σ H1
theorem ps_if {c : Expr} {a b : List Stmt} {tc : TT} (hc : PT X c tc) (ha : PSs X a t) (hb : PSs X b u) : PS X (.If c a b pos) (tIfS tc t u) := by
  intro pins s σ H D I h
  refine wpAny_If (thn (hc pins s σ H _ I h) fun d s1 ⟨H1, I1, q1⟩ => ?_)
  cases d with
  | true => exact ha pins s1 σ H1 D I1 q1
  | false => exact hb pins s1 σ H1 D I1 q1
end
abbrev TG := V → St → Hp → (St → Hp → Prop) → Prop
abbrev TGs := List V → St → Hp → (St → Hp → Prop) → Prop
def PG (X : Cx) (target : Expr) (t : TG) : Prop :=
  ∀ (pins : List (Addr × Obj)) (s : Shared) (σ : St) (H : Hp) (v : V) (u : Value) (Q : St → Hp → Prop), Inv X pins σ H s → RelV v u → t v σ H Q →
    wpAny (model X.prog X.w) X.A (assign target X.env u) (fun _ s' => ∃ σ' H', Inv X pins σ' H' s' ∧ Q σ' H') X.xe s
def PGs (X : Cx) (ts : List Expr) (t : TGs) : Prop :=
  ∀ (pins : List (Addr × Obj)) (s : Shared) (σ : St) (H : Hp) (vs : List V) (us : List Value) (Q : St → Hp → Prop), Inv X pins σ H s → Vals vs us → t vs σ H Q →
    wpAny (model X.prog X.w) X.A (assignInOrder ((assignEach ts X.env).map (·.2)) us) (fun _ s' => ∃ σ' H', Inv X pins σ' H' s' ∧ Q σ' H') X.xe s
abbrev TSet := V → V → V → Hp → (Hp → Prop) → Prop
def PSet (X : Cx) (t : TSet) : Prop :=
  ∀ (pins : List (Addr × Obj)) (s : Shared) (σ : St) (H : Hp) (o i v : V) (ov iv u : Value) (Q : Hp → Prop), Inv X pins σ H s → RelV o ov → RelV i iv → RelV v u → t o i v H Q →
    wpAny (model X.prog X.w) X.A (setItem ov iv u) (fun _ s' => ∃ H', Inv X pins σ H' s' ∧ Q H') X.xe s
section
variable {X : Cx} {pos : Pos}
def gName (i : Nat) : TG := fun v σ H Q => Q (σ.set i (some v)) H
theorem pg_name {i : Nat} {x : Str} (hN : X.N.Nodup) (hi : X.N[i]? = some x) (hx : Loc X.env.scope x) (hf : X.fn x = true ∨ X.env.scope.names.lookup x = some .local := by first | exact .inl rfl | exact .inr rfl | assumption) : PG X (.Name x pos) (gName i) := by
  intro pins s σ H v u Q I r h
  exact wpAny_assign_Name (store_ok I hN hi hx r (fun s' I' => ⟨_, H, I', h⟩) hf)
def gNil : TGs := fun vs σ H Q => vs = [] ∧ Q σ H
def gCons (t : TG) (u : TGs) : TGs := fun vs σ H Q => ∃ v r, vs = v :: r ∧ t v σ H fun σ' H' => u r σ' H' Q
theorem pgs_nil : PGs X [] gNil := by
  intro pins s σ H vs us Q I r h
  obtain ⟨e, h⟩ := h
  subst e
  cases r
  exact assignInOrder_nil ⟨σ, H, I, h⟩
theorem pgs_cons {e : Expr} {es : List Expr} {t : TG} {u : TGs} (h1 : PG X e t) (h2 : PGs X es u)
    (hs : (assignEach (e :: es) X.env).map (·.2) = assign e X.env :: (assignEach es X.env).map (·.2) := by rfl) : PGs X (e :: es) (gCons t u) := by
  intro pins s σ H vs us Q I r h
  obtain ⟨v, vr, e1, h⟩ := h
  subst e1
  cases r with
  | cons r rr =>
    rw [hs]
    refine assignInOrder_cons (thn (h1 pins s σ H _ _ _ I r h) fun _ s1 ⟨σ1, H1, I1, q1⟩ => ?_)
    exact h2 pins s1 σ1 H1 _ _ Q I1 rr q1
def gTup (K : PySem.W.Frag) (n : Nat) (t : TGs) : TG := fun v σ H Q => ∃ a xs, v = .ref a ∧ SqT K H a xs ∧ xs.length = n ∧ t xs σ H Q
theorem pg_tup {es : List Expr} {k : Nat} {t : TGs} {n : Nat} (hc : X.calm = true) (h : PGs X es t)
    (hn : (assignEach es X.env).length = n := by rfl) (hst : (assignEach es X.env).findIdx? (·.1) = none := by rfl) : PG X (.Tuple es k pos) (gTup X.K n t) := by
  intro pins s σ H v u Q I r hw
  obtain ⟨a, xs, e1, hq, hl, hw⟩ := hw
  subst e1
  cases r
  obtain ⟨its, rv, ht, hz⟩ := I.tuple hq
  refine assign_Tuple_tuple (I.ok.hd hc) ht (by simp [hn, ← hl, rv.length]) hst fun h' hx => ?_
  have I1 : Inv X pins σ H { s with heap := h' } := I.kept (t' := s.toks) fun b o e => hx b o (Nat.ne_of_lt (Heap.lt_size e)) e
  exact h pins _ σ H xs _ Q I1 (by simpa using rv) hw
def gSub (to ti : TE) (t : TSet) : TG := fun v σ H Q => to σ H fun o H1 => ti σ H1 fun i H2 => t o i v H2 fun H3 => Q σ H3
theorem pg_sub {o i : Expr} {to ti : TE} {t : TSet} (ho : PE X o to) (hi : PE X i ti) (hs : PSet X t)
    (ha : ∀ v, assign (.Subscript o i pos) X.env v = (do
      let ov ← holding [v] (eval o X.env)
      let iv ← holding [v, ov] (eval i X.env)
      standAt pos
      holding [v, ov, iv] (setItem ov iv v)
      release [v, ov, iv] []) := by intro _; rfl) : PG X (.Subscript o i pos) (gSub to ti t) := by
  intro pins s σ H v u Q I r h
  rw [ha]
  refine wpAny_bind (wpAny_holding (thn (ho pins s σ H _ I h) fun ov s1 ⟨x, H1, I1, r1, q1⟩ => ?_))
  refine wpAny_bind (wpAny_holding (thn (hi pins s1 σ H1 _ I1 q1) fun iv s2 ⟨y, H2, I2, r2, q2⟩ => ?_))
  refine wpAny_bind (wpAny_standAt (wpAny_bind (wpAny_holding (thn (hs pins s2 σ H2 x y v ov iv u _ I2 r1 r2 r q2) fun _ s3 ⟨H3, I3, q3⟩ => ?_))))
  exact wpAny_release ⟨σ, H3, I3, q3⟩
def tAsg (te : TE) (g : TG) : TS := fun D σ H => te σ H fun x H1 => g x σ H1 D.nx
theorem ps_asg {tg e : Expr} {te : TE} {g : TG} (he : PE X e te) (hg : PG X tg g) (hs : swapsWithSole [tg] e pos.line X.env = pure false := by rfl) (hw : swappedStores [tg] e X.env = pure none := by rfl)
    (h1 : (assignEach [tg] X.env).map (·.2) = [assign tg X.env] := by rfl) : PS X (.Assign [tg] e pos) (tAsg te g) := by
  intro pins s σ H D I h
  refine wpAny_Assign_stores (thn (he pins s σ H _ I h) fun v s1 ⟨x, H1, I1, r1, q1⟩ => ?_) hs hw
  rw [h1]
  exact thn (hg pins s1 σ H1 x v _ I1 r1 q1) fun _ s2 q => q
theorem ps_set {i : Nat} {x : Str} {e : Expr} {te : TE} {pos' : Pos} (hN : X.N.Nodup) (hi : X.N[i]? = some x) (hx : Loc X.env.scope x) (he : PE X e te) (hs : swapsWith e (some (.Name x pos')) pos.line X.env = pure false := by rfl) (hf : X.fn x = true ∨ X.env.scope.names.lookup x = some .local := by first | exact .inl rfl | exact .inr rfl | assumption) :
    PS X (.Assign [.Name x pos'] e pos) (tAsg te (gName i)) := by
  intro pins s σ H D I h
  refine wpAny_Assign_Name (thn (he pins s σ H _ I h) fun v s1 ⟨y, H1, I1, r1, q1⟩ => ?_) hs
  exact store_ok I1 hN hi hx r1 (fun s2 I2 => ⟨_, H1, I2, q1⟩) hf
end
section
variable {X : Cx} {pos : Pos}
def tWhile (c : TT) (tb : TS) : TS := fun D σ H => ∃ W : Nat → St → Hp → Prop, (∃ m, W m σ H) ∧ ∀ m σ H, W m σ H →
  c σ H fun b H1 => if b = true then ∃ N : St → Hp → Prop, (∀ σ' H', N σ' H' → ∃ m', m' < m ∧ W m' σ' H') ∧ tb { D with nx := N, ct := N, bk := D.nx } σ H1 else D.nx σ H1
theorem ps_while {c : Expr} {body : List Stmt} {tc : TT} {tb : TS} (hp : PassesOwn (model X.prog X.w) X.A X.env X.xe) (hc : PT X c tc) (hb : PSs X body tb) : PS X (.While c body [] pos) (tWhile tc tb) := by
  intro pins s σ H D I h
  obtain ⟨W, ⟨m0, w0⟩, turn⟩ := h
  refine wpAny_While (codeAny_whileLoop (fun n s' => ∃ σ' H', Inv X pins σ' H' s' ∧ W n σ' H') ?_ m0 ⟨σ, H, I, w0⟩)
  rintro n s1 ⟨σ1, H1, I1, w1⟩
  refine wpAny_passesOwn hp (thn (hc pins s1 σ1 H1 _ I1 (turn n σ1 H1 w1)) fun b s2 ⟨H2, I2, q2⟩ => ?_)
  cases b with
  | true =>
    obtain ⟨N, hN, q2⟩ := q2
    rw [if_pos rfl]
    refine wpAny_passesOwn hp (thn (hb pins s2 σ1 H2 _ I2 q2) fun f s3 q3 => ?_)
    cases f with
    | next =>
      obtain ⟨σ3, H3, I3, n3⟩ := q3
      obtain ⟨m', hm, w3⟩ := hN σ3 H3 n3
      exact ⟨m', hm, σ3, H3, I3, w3⟩
    | cont =>
      obtain ⟨σ3, H3, I3, n3⟩ := q3
      obtain ⟨m', hm, w3⟩ := hN σ3 H3 n3
      exact ⟨m', hm, σ3, H3, I3, w3⟩
    | brk => exact q3
    | ret v => exact q3
  | false =>
    rw [if_neg Bool.false_ne_true]
    exact wpAny_execs_nil ⟨σ1, H2, I2, q2⟩
end
structure It where
  go : Nat → Hp → Prop
  yld : Nat → Hp → V → Hp → Prop
  stop : Nat → Hp → Prop
def FpOk (X : Cx) (pins : List (Addr × Obj)) (H : Hp) (b : Addr) : Prop :=
  H b = none ∧ b ≠ X.env.locals ∧ b ∉ X.fs ∧ (b ∈ X.ex ∨ X.s_0.heap.objs.size ≤ b) ∧ (∀ x c, X.env.cells.lookup x = some c → c ≠ b) ∧ ∀ p ∈ X.pn ++ pins, p.1 ≠ b
theorem Inv.fpOk {X : Cx} {pins : List (Addr × Obj)} {σ : St} {H H' : Hp} {s : Shared} {b : Addr} (I : Inv X pins σ H s) (hb : s.heap.objs.size ≤ b) (hn : H' b = none) : FpOk X pins H' b := by
  refine ⟨hn, Nat.ne_of_gt (Nat.lt_of_lt_of_le I.lt hb), I.nofs hb, .inr (Nat.le_trans I.sz hb), fun x c e z => ?_, fun p hp z => ?_⟩
  · obtain ⟨v, q⟩ := I.cell x c e
    exact absurd (Nat.lt_of_lt_of_le q.lt (by rw [z]; exact hb)) (Nat.lt_irrefl _)
  · exact absurd (Nat.lt_of_lt_of_le (Heap.lt_size (I.pin p hp).1) (by rw [z]; exact hb)) (Nat.lt_irrefl _)
structure Turn (P : Program) (w : World) (K : PySem.W.Frag) (tg : Expr) (J : It) (fp : List Addr) (it : Addr) (tn : Nat → Heap → Prop) : Prop where
  mem : it ∈ fp
  obj : ∀ i h, tn i h → ∀ b ∈ fp, ∃ o, h.get? b = some o ∧ ∀ v, o.data ≠ .cell v
  keep : ∀ i h h', tn i h → (∀ b ∈ fp, ∀ o, h.get? b = some o → h'.get? b = some o) → tn i h'
  item : ∀ (X : Cx), X.prog = P → X.w = w → X.K = K → X.calm = true → ∀ (i : Nat) (pins : List (Addr × Obj)) (s : Shared) (σ : St) (H : Hp) (E : Value → Shared → Prop), Inv X pins σ H s → (∀ b ∈ fp, FpOk X pins H b) → tn i s.heap → J.go i H →
    wpAny (model P w) X.A (pyNext (.ref it)) (fun r s1 => ∃ u, r = some u ∧
      wpAny (model P w) X.A (letOwnedTupleGo tg (.ref it) u) (fun _ s2 => ∃ x H', Inv X pins σ H' s2 ∧ RelV x u ∧ J.yld i H x H' ∧ tn (i + 1) s2.heap ∧ ∀ b ∈ fp, H' b = none) E s1) E s
  done : ∀ (X : Cx), X.prog = P → X.w = w → X.K = K → X.calm = true → ∀ (i : Nat) (pins : List (Addr × Obj)) (s : Shared) (σ : St) (H : Hp) (E : Value → Shared → Prop), Inv X pins σ H s → (∀ b ∈ fp, FpOk X pins H b) → tn i s.heap → J.stop i H →
    wpAny (model P w) X.A (pyNext (.ref it)) (fun r s1 => r = none ∧ Inv X pins σ H s1) E s
  self : ∀ (A : Around) (i : Nat) (s : Shared) (Q : Value → Shared → Prop) (E : Value → Shared → Prop), tn i s.heap → Q (.ref it) s → wpAny (model P w) A (pyIter (.ref it)) Q E s
abbrev TI := St → Hp → (It → Hp → Prop) → Prop
def PIE (X : Cx) (pins : List (Addr × Obj)) (σ : St) (tg : Expr) (R : It → Hp → Prop) (itv : Value) (s2 : Shared) : Prop :=
  ∃ (it : Addr) (fp : List Addr) (tn : Nat → Heap → Prop) (J : It) (H' : Hp), itv = .ref it ∧ Inv X pins σ H' s2 ∧ Turn X.prog X.w X.K tg J fp it tn ∧ tn 0 s2.heap ∧ (∀ b ∈ fp, FpOk X pins H' b) ∧ R J H'
def PI (X : Cx) (tg iter : Expr) (wi : TI) : Prop :=
  ∀ (pins : List (Addr × Obj)) (s : Shared) (σ : St) (H : Hp) (R : It → Hp → Prop), Inv X pins σ H s → wi σ H R →
    wpAny (model X.prog X.w) X.A (eval iter X.env) (fun v s1 => wpAny (model X.prog X.w) X.A (pyIter v) (PIE X pins σ tg R) X.xe s1) X.xe s
theorem go_of {M : Model} {A : Around} {E : Value → Shared → Prop} {s : Shared} {tg : Expr} {it : Addr} {u : Value} {o : Obj} {n : String} {vs : Array Value} {Q : Unit → Shared → Prop} (ho : s.heap.get? it = some o) (hc : o.cls = .type n) (hd : o.data = .fields vs)
    (hn : ["enumerate", "zip", "dict_itemiterator", "dict_reverseitemiterator", "odict_iterator", "itertools.zip_longest", "itertools.pairwise"].contains n = false) (hQ : Q () s) : wpAny M A (letOwnedTupleGo tg (.ref it) u) Q E s := by
  unfold letOwnedTupleGo
  cases tg <;> first
    | exact wpAny_pure hQ
    | (cases u <;> first
        | exact wpAny_pure hQ
        | (refine wpAny_bind (wpAny_load ho ?_)
           rw [hc, hd]
           show wpAny M A (if (["enumerate", "zip", "dict_itemiterator", "dict_reverseitemiterator", "odict_iterator", "itertools.zip_longest", "itertools.pairwise"].contains n && vs[0]? == some (rawInt _)) = true then _ else _) Q E s
           rw [if_neg (by intro h; rw [hn, Bool.false_and] at h; cases h)]
           exact wpAny_pure hQ))
def Itl (K : PySem.W.Frag) (a : Addr) : It :=
  ⟨fun i H => ∃ xs x, SqL K H a xs ∧ xs[i]? = some x, fun i H x H' => H' = H ∧ ∀ xs, SqL K H a xs → xs[i]? = some x, fun i H => ∃ xs, SqL K H a xs ∧ xs.length ≤ i⟩
def Itt (K : PySem.W.Frag) (a : Addr) : It :=
  ⟨fun i H => ∃ xs x, SqT K H a xs ∧ xs[i]? = some x, fun i H x H' => H' = H ∧ ∀ xs, SqT K H a xs → xs[i]? = some x, fun i H => ∃ xs, SqT K H a xs ∧ xs.length ≤ i⟩
def Itr (lo : Int) (n : Nat) : It := ⟨fun i _ => i < n, fun i H x H' => H' = H ∧ x = .int (lo + i), fun i _ => n ≤ i⟩
theorem turn_list {P : Program} {w : World} {K : PySem.W.Frag} {tg : Expr} (a it : Addr) : Turn P w K tg (Itl K a) [it] it (fun i h => h.IsListIter it a i) where
  mem := by simp
  obj := fun i h st b hb => by
    have e : b = it := by simpa using hb
    subst e
    obtain ⟨o, e, c, d⟩ := st
    exact ⟨o, e, fun v z => by rw [d] at z; cases z⟩
  keep := fun i h h' st k => st.at fun o e => k it (by simp) o e
  item := by
    intro X hP hw hK hc i pins s σ H E I hf st hg
    subst hP hw hK
    obtain ⟨xs, x, hq, hx⟩ := hg
    obtain ⟨its, rv, p, hz⟩ := I.list hq
    obtain ⟨u, hu, ru⟩ := rv.get hx
    obtain ⟨f0, f1, f2, f3, f4, f5⟩ := hf it (by simp)
    refine wpAny_pyNext_list_item st p.isList (x := u) (by simpa using hu) fun h' st' sb => ?_
    have I1 : Inv X pins σ H { s with heap := h' } := I.turned (t' := s.toks) (fun b o hb e => (sb.2 b hb).trans e) f0 f1 f3 f4 f5
    obtain ⟨o, e, c, d⟩ := id st'
    exact ⟨u, rfl, go_of (s := { s with heap := h' }) e c d (by decide) ⟨x, H, I1, ru, ⟨rfl, fun ys hy => by rw [I.list_inj hy hq]; exact hx⟩, st', fun b hb => (hf b hb).1⟩⟩
  done := by
    intro X hP hw hK hc i pins s σ H E I hf st hg
    subst hP hw hK
    obtain ⟨xs, hq, hx⟩ := hg
    obtain ⟨its, rv, p, hz⟩ := I.list hq
    obtain ⟨f0, f1, f2, f3, f4, f5⟩ := hf it (by simp)
    have hl := rv.length
    exact wpAny_pyNext_list_end (I.ok.hd hc) st p.isList (by simp; omega) fun h' eb => ⟨rfl, I.turned (t' := s.toks) (fun b o hb e => eb b o hb e) f0 f1 f3 f4 f5⟩
  self := fun _ _ _ _ _ st h => wpAny_pyIter_listiter st h
theorem turn_tuple {P : Program} {w : World} {K : PySem.W.Frag} {tg : Expr} (a it : Addr) : Turn P w K tg (Itt K a) [it] it (fun i h => h.IsTupleIter it a i) where
  mem := by simp
  obj := fun i h st b hb => by
    have e : b = it := by simpa using hb
    subst e
    obtain ⟨o, e, c, d⟩ := st
    exact ⟨o, e, fun v z => by rw [d] at z; cases z⟩
  keep := fun i h h' st k => st.at fun o e => k it (by simp) o e
  item := by
    intro X hP hw hK hc i pins s σ H E I hf st hg
    subst hP hw hK
    obtain ⟨xs, x, hq, hx⟩ := hg
    obtain ⟨its, rv, p, hz⟩ := I.tuple hq
    obtain ⟨u, hu, ru⟩ := rv.get hx
    obtain ⟨f0, f1, f2, f3, f4, f5⟩ := hf it (by simp)
    refine wpAny_pyNext_tuple_item st (show s.heap.IsTuple a its.toArray from p) (x := u) (by simpa using hu) fun h' st' sb => ?_
    have I1 : Inv X pins σ H { s with heap := h' } := I.turned (t' := s.toks) (fun b o hb e => (sb.2 b hb).trans e) f0 f1 f3 f4 f5
    obtain ⟨o, e, c, d⟩ := id st'
    exact ⟨u, rfl, go_of (s := { s with heap := h' }) e c d (by decide) ⟨x, H, I1, ru, ⟨rfl, fun ys hy => by rw [I.tuple_inj hy hq]; exact hx⟩, st', fun b hb => (hf b hb).1⟩⟩
  done := by
    intro X hP hw hK hc i pins s σ H E I hf st hg
    subst hP hw hK
    obtain ⟨xs, hq, hx⟩ := hg
    obtain ⟨its, rv, p, hz⟩ := I.tuple hq
    obtain ⟨f0, f1, f2, f3, f4, f5⟩ := hf it (by simp)
    have hl := rv.length
    exact wpAny_pyNext_tuple_end (I.ok.hd hc) st (show s.heap.IsTuple a its.toArray from p) (by simp; omega) fun h' eb => ⟨rfl, I.turned (t' := s.toks) (fun b o hb e => eb b o hb e) f0 f1 f3 f4 f5⟩
  self := fun _ _ _ _ _ st h => wpAny_pyIter_tupleiter st h
theorem turn_range {P : Program} {w : World} {K : PySem.W.Frag} {tg : Expr} (it : Addr) (lo : Int) (n : Nat) : Turn P w K tg (Itr lo n) [it] it (fun i h => IsRangeIter h it (lo + (i : Nat) * 1) ((n : Int) - (i : Nat)) 1) where
  mem := by simp
  obj := fun i h st b hb => by
    have e : b = it := by simpa using hb
    subst e
    exact ⟨_, st, fun v z => by
      have z' : Data.fields _ = Data.cell v := z
      cases z'⟩
  keep := fun i h h' st k => k it (by simp) _ st
  item := by
    intro X hP hw hK hc i pins s σ H E I hf st hg
    subst hP hw hK
    obtain ⟨f0, f1, f2, f3, f4, f5⟩ := hf it (by simp)
    have W := Walks.range (prog := X.prog) (w := X.w) (I.ok.hd hc) it lo 1 n
    refine W.item i s _ _ hg st fun v h' tk hv st' kk => ?_
    obtain ⟨t, rfl⟩ := hv
    have I1 : Inv X pins σ H { s with heap := h', toks := tk } := I.turned (fun b o hb e => kk b o (by simpa using hb) e) f0 f1 f3 f4 f5
    refine ⟨_, rfl, go_of (s := { s with heap := h', toks := tk }) (n := "range_iterator") st' rfl rfl (by decide) ⟨.int (lo + i), H, I1, ⟨t, ?_⟩, ⟨rfl, rfl⟩, st', fun b hb => (hf b hb).1⟩⟩
    rw [Int.mul_one]
  done := by
    intro X hP hw hK hc i pins s σ H E I hf st hg
    subst hP hw hK
    obtain ⟨f0, f1, f2, f3, f4, f5⟩ := hf it (by simp)
    exact wpAny_pyNext_range_end (I.ok.hd hc) st (by have : n ≤ i := hg; omega) fun h' eb => ⟨rfl, I.turned (t' := s.toks) (fun b o hb e => eb b o hb e) f0 f1 f3 f4 f5⟩
  self := fun _ _ _ _ _ st h => wpAny_pyIter_rangeiter st h
end L2
namespace L2
open PySem PySem.Spec PyProof.Rows
section
variable {X : Cx} {tg : Expr}
def iList (K : PySem.W.Frag) (tl : TE) : TI := fun σ H R => tl σ H fun x H1 => ∃ a, x = .ref a ∧ (∃ xs, SqL K H1 a xs) ∧ R (Itl K a) H1
def iTup (K : PySem.W.Frag) (tl : TE) : TI := fun σ H R => tl σ H fun x H1 => ∃ a, x = .ref a ∧ (∃ xs, SqT K H1 a xs) ∧ R (Itt K a) H1
theorem pi_list {l : Expr} {tl : TE} (hl : PE X l tl) : PI X tg l (iList X.K tl) := by
  intro pins s σ H R I h
  refine thn (hl pins s σ H _ I h) fun v s1 ⟨x, H1, I1, r1, q1⟩ => ?_
  obtain ⟨a, e, ⟨xs, hq⟩, q⟩ := q1
  subst e
  cases r1
  obtain ⟨its, rv, p, hz⟩ := I1.list hq
  refine wpAny_pyIter_list p.isList ?_
  refine ⟨s1.heap.objs.size, [s1.heap.objs.size], _, _, H1, rfl, I1.kept (t' := s1.toks) fun b o e => Heap.get?_push_of_some _ e, turn_list a _, ⟨_, Heap.get?_push_size _ rfl, rfl, rfl⟩, fun b hb => ?_, q⟩
  have e : b = s1.heap.objs.size := by simpa using hb
  subst e
  exact I1.fpOk (Nat.le_refl _) (I1.hok.fresh (Nat.le_refl _))
theorem pi_tup {l : Expr} {tl : TE} (hl : PE X l tl) : PI X tg l (iTup X.K tl) := by
  intro pins s σ H R I h
  refine thn (hl pins s σ H _ I h) fun v s1 ⟨x, H1, I1, r1, q1⟩ => ?_
  obtain ⟨a, e, ⟨xs, hq⟩, q⟩ := q1
  subst e
  cases r1
  obtain ⟨its, rv, p, hz⟩ := I1.tuple hq
  refine wpAny_pyIter_tuple (show s1.heap.IsTuple a its.toArray from p) ?_
  refine ⟨s1.heap.objs.size, [s1.heap.objs.size], _, _, H1, rfl, I1.kept (t' := s1.toks) fun b o e => Heap.get?_push_of_some _ e, turn_tuple a _, ⟨_, Heap.get?_push_size _ rfl, rfl, rfl⟩, fun b hb => ?_, q⟩
  have e : b = s1.heap.objs.size := by simpa using hb
  subst e
  exact I1.fpOk (Nat.le_refl _) (I1.hok.fresh (Nat.le_refl _))
theorem range_it {pins : List (Addr × Obj)} {σ : St} {H : Hp} {s : Shared} {R : It → Hp → Prop} {E : Value → Shared → Prop} {lo hi : Int} {t u v : Tok} {tk : Nat} (I : Inv X pins σ H s) (h1 : -(2 ^ 62) ≤ lo) (h2 : lo < 2 ^ 62) (h3 : -(2 ^ 62) ≤ hi) (h4 : hi < 2 ^ 62)
    (q : R (Itr lo (hi - lo).toNat) H) : wpAny (model X.prog X.w) X.A (pyIter (.ref s.heap.objs.size)) (PIE X pins σ tg R) E { s with heap := s.heap.push { cls := .type "range", data := .fields #[.int lo t, .int hi u, .int 1 v] }, toks := tk } := by
  refine wpAny_pyIter_range (IsRange.new ..) (small_one h1 h2 h3 h4) ?_
  have I1 : Inv X pins σ H { s with heap := s.heap.push { cls := .type "range", data := .fields #[.int lo t, .int hi u, .int 1 v] }, toks := tk } := I.kept fun b o e => Heap.get?_push_of_some _ e
  refine ⟨(s.heap.push { cls := .type "range", data := .fields #[.int lo t, .int hi u, .int 1 v] }).objs.size, [(s.heap.push { cls := .type "range", data := .fields #[.int lo t, .int hi u, .int 1 v] }).objs.size], _, _, H, rfl,
    I1.kept (t' := tk) fun b o e => Heap.get?_push_of_some _ e, turn_range _ lo (hi - lo).toNat, ?_, fun b hb => ?_, q⟩
  · have e1 : lo + ((0 : Nat) : Int) * 1 = lo := by simp
    have e2 : (((hi - lo).toNat : Nat) : Int) - ((0 : Nat) : Int) = Builtin.Range.rangeSize lo hi 1 := by rw [rangeSize_one]; split <;> omega
    show IsRangeIter _ _ (lo + ((0 : Nat) : Int) * 1) ((((hi - lo).toNat : Nat) : Int) - ((0 : Nat) : Int)) 1
    rw [e1, e2]
    exact Heap.get?_push_size _ rfl
  · have e : b = (s.heap.push { cls := .type "range", data := .fields #[.int lo t, .int hi u, .int 1 v] }).objs.size := by simpa using hb
    subst e
    exact I1.fpOk (Nat.le_refl _) (I1.hok.fresh (Nat.le_refl _))
def iRng1 (ta : TA) : TI := fun σ H R => ta σ H fun vs H1 => ∃ j : Int, vs = [.int j] ∧ -(2 ^ 62) ≤ j ∧ j < 2 ^ 62 ∧ R (Itr 0 j.toNat) H1
theorem pi_range1 {a : Expr} {ta : TA} {p pos : Pos} (hg : Gl X "range") (hm : X.mg "range" = none) (ha : PA X [a] ta) (hs : starEach [a] X.env = [(false, eval a X.env)] := by rfl) : PI X tg (.Call (.Name "range" p) [a] [] pos) (iRng1 ta) := by
  intro pins s σ H R I h
  refine Call_ (ld_blt I hg hm boot_range (PyProof.Rows.callWith_type1 (thn (ha pos pins s σ H _ I h) fun us s1 ⟨vs, H1, I1, r1, q1⟩ => ?_) hs rfl))
  obtain ⟨j, e, q1, q2, q⟩ := q1
  subst e
  cases r1 with
  | cons r rr =>
    cases rr
    obtain ⟨t, rfl⟩ := r
    exact call_range_1 (range_it I1 (by omega) (by omega) q1 q2 (by simpa using q))
def tFor (wi : TI) (g : TG) (tb : TS) : TS := fun D σ H => wi σ H fun J H1 => ∃ W : Nat → Nat → St → Hp → Prop, (∃ m, W 0 m σ H1) ∧ ∀ i m σ H, W i m σ H →
  (J.stop i H ∧ D.nx σ H) ∨ (J.go i H ∧ ∃ N : St → Hp → Prop, (∀ σ' H', N σ' H' → ∃ m', m' < m ∧ W (i + 1) m' σ' H') ∧ ∀ x H', J.yld i H x H' → g x σ H' fun σ2 H2 => tb { D with nx := N, ct := N, bk := D.nx } σ2 H2)
def pinsAt (fp : List Addr) (h : Heap) : List (Addr × Obj) := fp.filterMap fun b => (h.get? b).map fun o => (b, o)
theorem mem_pinsAt {fp : List Addr} {h : Heap} {b : Addr} {o : Obj} (hb : b ∈ fp) (e : h.get? b = some o) : (b, o) ∈ pinsAt fp h := List.mem_filterMap.mpr ⟨b, hb, by rw [e]; rfl⟩
theorem of_pinsAt {fp : List Addr} {h : Heap} {p : Addr × Obj} (hp : p ∈ pinsAt fp h) : p.1 ∈ fp ∧ h.get? p.1 = some p.2 := by
  obtain ⟨b, hb, e⟩ := List.mem_filterMap.mp hp
  cases q : h.get? b with
  | none => rw [q] at e; cases e
  | some o =>
    rw [q] at e
    have e' : (b, o) = p := Option.some.inj e
    subst e'
    exact ⟨hb, q⟩
theorem Inv.pinned {pins : List (Addr × Obj)} {σ : St} {H : Hp} {s : Shared} {fp : List Addr} (I : Inv X pins σ H s) (hf : ∀ b ∈ fp, FpOk X pins H b) (ho : ∀ b ∈ fp, ∃ o, s.heap.get? b = some o ∧ ∀ v, o.data ≠ .cell v) : Inv X (pins ++ pinsAt fp s.heap) σ H s :=
  I.pins_of fun p hp => (List.mem_append.mp hp).elim (fun z => I.pin p (List.mem_append_right _ z)) fun z => by
    obtain ⟨hb, e⟩ := of_pinsAt z
    obtain ⟨f0, f1, f2, _⟩ := hf p.1 hb
    obtain ⟨o, e', d⟩ := ho p.1 hb
    rw [e] at e'; cases e'
    exact ⟨e, f0, f1, f2, d⟩
theorem Inv.unpinned {pins pl : List (Addr × Obj)} {σ : St} {H : Hp} {s : Shared} (I : Inv X (pins ++ pl) σ H s) : Inv X pins σ H s := I.pins_of fun p hp => I.pin p (List.mem_append_right _ (List.mem_append_left _ hp))
theorem ps_for {iter : Expr} {body : List Stmt} {wi : TI} {g : TG} {tb : TS} {pos : Pos} (hp : PassesOwn (model X.prog X.w) X.A X.env X.xe) (hc : X.calm = true) (hi : PI X tg iter wi) (hg : PG X tg g) (hb : PSs X body tb)
    (hs : ∀ x, foldedSetIterable iter X.env x = pure x := by intro _; rfl) : PS X (.For tg iter body [] pos) (tFor wi g tb) := by
  intro pins s σ H D I h
  refine wpAny_For (thn (hi pins s σ H _ I h) fun v s1 h1 => thn h1 fun itv s2 h2 => ?_) hs
  obtain ⟨it, fp, tn, J, H2, e, I2, T, st2, f2, W, ⟨m0, w0⟩, turn⟩ := h2
  subst e
  have stat : ∀ {H' : Hp}, (∀ b ∈ fp, H' b = none) → ∀ b ∈ fp, FpOk X pins H' b := fun hn b hb => ⟨hn b hb, (f2 b hb).2⟩
  refine codeAny_forLoop_any (fun n s' => ∃ i σ' H', Inv X pins σ' H' s' ∧ tn i s'.heap ∧ (∀ b ∈ fp, H' b = none) ∧ W i n σ' H') ?_ m0 ⟨0, σ, H2, I2, st2, fun b hb => (f2 b hb).1, w0⟩
  rintro n s3 ⟨i, σ3, H3, I3, st3, fr3, w3⟩
  rcases turn i n σ3 H3 w3 with ⟨stop, qn⟩ | ⟨go, N, hN, step⟩
  · refine wpAny_passesOwn hp (thn (T.done X rfl rfl rfl hc i pins s3 σ3 H3 X.xe I3 (stat fr3) st3 stop) fun r s4 ⟨hr, I4⟩ => ?_)
    subst hr
    exact wpAny_execs_nil ⟨σ3, H3, I4, qn⟩
  · refine wpAny_passesOwn hp (thn (T.item X rfl rfl rfl hc i pins s3 σ3 H3 X.xe I3 (stat fr3) st3 go) fun r s4 ⟨u, hr, h4⟩ => ?_)
    subst hr
    refine wpAny_passesOwn hp (thn h4 fun _ s5 ⟨x, H5, I5, r5, y5, st5, fr5⟩ => ?_)
    have I5' := I5.pinned (stat fr5) (T.obj _ _ st5)
    refine wpAny_passesOwn hp (thn (hg _ s5 σ3 H5 x u _ I5' r5 (step x H5 y5)) fun _ s6 ⟨σ6, H6, I6, q6⟩ => ?_)
    refine wpAny_passesOwn hp (thn (hb _ s6 σ6 H6 _ I6 q6) fun f s7 q7 => ?_)
    have again : ∀ {σ7 : St} {H7 : Hp}, Inv X (pins ++ pinsAt fp s5.heap) σ7 H7 s7 → N σ7 H7 → ∃ m, m < n ∧ ∃ i σ' H', Inv X pins σ' H' s7 ∧ tn i s7.heap ∧ (∀ b ∈ fp, H' b = none) ∧ W i m σ' H' := fun {σ7 H7} I7 n7 => by
      obtain ⟨m', hm, w7⟩ := hN σ7 H7 n7
      refine ⟨m', hm, i + 1, σ7, H7, I7.unpinned, T.keep _ _ _ st5 fun b hb o e => (I7.pin (b, o) (List.mem_append_right _ (List.mem_append_right _ (mem_pinsAt hb e)))).1, fun b hb => ?_, w7⟩
      obtain ⟨o, e, d⟩ := T.obj _ _ st5 b hb
      exact (I7.pin (b, o) (List.mem_append_right _ (List.mem_append_right _ (mem_pinsAt hb e)))).2.1
    cases f with
    | next => obtain ⟨σ7, H7, I7, n7⟩ := q7; exact again I7 n7
    | cont => obtain ⟨σ7, H7, I7, n7⟩ := q7; exact again I7 n7
    | brk => obtain ⟨σ7, H7, I7, q7⟩ := q7; exact ⟨σ7, H7, I7.unpinned, q7⟩
    | ret v => obtain ⟨x7, σ7, H7, I7, r7, q7⟩ := q7; exact ⟨x7, σ7, H7, I7.unpinned, r7, q7⟩
end
theorem for_list {K : PySem.W.Frag} {a : Addr} {xs : List V} {g : TG} {tb : TS} {D : Ends} {σ : St} {H : Hp} (Pv : Nat → St → Hp → Prop) (h0 : Pv 0 σ H) (hl : ∀ i σ H, i ≤ xs.length → Pv i σ H → SqL K H a xs)
    (hs : ∀ i x σ H, xs[i]? = some x → Pv i σ H → g x σ H fun σ2 H2 => tb { D with nx := Pv (i + 1), ct := Pv (i + 1), bk := D.nx } σ2 H2) (hd : ∀ σ H, Pv xs.length σ H → D.nx σ H) :
    ∃ W : Nat → Nat → St → Hp → Prop, (∃ m, W 0 m σ H) ∧ ∀ i m σ H, W i m σ H →
      ((Itl K a).stop i H ∧ D.nx σ H) ∨ ((Itl K a).go i H ∧ ∃ N : St → Hp → Prop, (∀ σ' H', N σ' H' → ∃ m', m' < m ∧ W (i + 1) m' σ' H') ∧ ∀ x H', (Itl K a).yld i H x H' → g x σ H' fun σ2 H2 => tb { D with nx := N, ct := N, bk := D.nx } σ2 H2) := by
  refine ⟨fun i m σ H => m = xs.length - i ∧ i ≤ xs.length ∧ Pv i σ H, ⟨xs.length, by simp, Nat.zero_le _, h0⟩, ?_⟩
  rintro i m σ H ⟨rfl, hi, p⟩
  have q := hl i σ H hi p
  by_cases hlt : i < xs.length
  · refine .inr ⟨⟨xs, xs[i], q, by simp [hlt]⟩, Pv (i + 1), fun σ' H' p' => ⟨xs.length - (i + 1), by omega, rfl, hlt, p'⟩, fun x H' y => ?_⟩
    obtain ⟨e, y⟩ := y
    subst e
    exact hs i x σ _ (y xs q) p
  · have e : i = xs.length := by omega
    subst e
    exact .inl ⟨⟨xs, q, Nat.le_refl _⟩, hd σ H p⟩
theorem for_range {lo : Int} {n : Nat} {g : TG} {tb : TS} {D : Ends} {σ : St} {H : Hp} (Pv : Nat → St → Hp → Prop) (h0 : Pv 0 σ H)
    (hs : ∀ i σ H, i < n → Pv i σ H → g (.int (lo + i)) σ H fun σ2 H2 => tb { D with nx := Pv (i + 1), ct := Pv (i + 1), bk := D.nx } σ2 H2) (hd : ∀ σ H, Pv n σ H → D.nx σ H) :
    ∃ W : Nat → Nat → St → Hp → Prop, (∃ m, W 0 m σ H) ∧ ∀ i m σ H, W i m σ H →
      ((Itr lo n).stop i H ∧ D.nx σ H) ∨ ((Itr lo n).go i H ∧ ∃ N : St → Hp → Prop, (∀ σ' H', N σ' H' → ∃ m', m' < m ∧ W (i + 1) m' σ' H') ∧ ∀ x H', (Itr lo n).yld i H x H' → g x σ H' fun σ2 H2 => tb { D with nx := N, ct := N, bk := D.nx } σ2 H2) := by
  refine ⟨fun i m σ H => m = n - i ∧ i ≤ n ∧ Pv i σ H, ⟨n, by simp, Nat.zero_le _, h0⟩, ?_⟩
  rintro i m σ H ⟨rfl, hi, p⟩
  by_cases hlt : i < n
  · refine .inr ⟨hlt, Pv (i + 1), fun σ' H' p' => ⟨n - (i + 1), by omega, rfl, hlt, p'⟩, fun x H' y => ?_⟩
    obtain ⟨e, y⟩ := y
    subst e y
    exact hs i σ _ hlt p
  · have e : i = n := by omega
    subst e
    exact .inl ⟨Nat.le_refl _, hd σ H p⟩
end L2
namespace L2
open PySem PySem.Spec PyProof.Rows
abbrev R2 := V → V → Hp → VK → Prop
def OpR (X : Cx) (f : Value → Value → Sem Value) (r : R2) : Prop :=
  ∀ (pins : List (Addr × Obj)) (s : Shared) (σ : St) (H : Hp) (x y : V) (v u : Value) (Q : VK), Inv X pins σ H s → RelV x v → RelV y u → r x y H Q →
    wpAny (model X.prog X.w) X.A (f v u) (EP X pins σ Q) X.xe s
def UnR (X : Cx) (f : Value → Sem Value) (r : V → Hp → VK → Prop) : Prop :=
  ∀ (pins : List (Addr × Obj)) (s : Shared) (σ : St) (H : Hp) (x : V) (v : Value) (Q : VK), Inv X pins σ H s → RelV x v → r x H Q →
    wpAny (model X.prog X.w) X.A (f v) (EP X pins σ Q) X.xe s
def CallR (X : Cx) (f : Value) (r : List V → Hp → VK → Prop) : Prop :=
  ∀ (pins : List (Addr × Obj)) (s : Shared) (σ : St) (H : Hp) (xs : List V) (us : List Value) (Q : VK), Inv X pins σ H s → Vals xs us → r xs H Q →
    wpAny (model X.prog X.w) X.A (call f us) (EP X pins σ Q) X.xe s
def tOp (r : R2) (ta tb : TE) : TE := fun σ H Q => ta σ H fun x H1 => tb σ H1 fun y H2 => r x y H2 Q
def tUn (r : V → Hp → VK → Prop) (ta : TE) : TE := fun σ H Q => ta σ H fun x H1 => r x H1 Q
def rI (C : Int → Int → Prop) (g : Int → Int → V) : R2 := fun x y H Q => ∃ i j, x = .int i ∧ y = .int j ∧ C i j ∧ Q (g i j) H
def rI0 (g : Int → Int → V) : R2 := fun x y H Q => ∃ i j, x = .int i ∧ y = .int j ∧ Q (g i j) H
def rU (g : Int → V) : V → Hp → VK → Prop := fun x H Q => ∃ i, x = .int i ∧ Q (g i) H
section
variable {X : Cx} {a b c : Expr} {ta tb tc : TE} {pos : Pos}
theorem binT (ha : PE X a ta) (hb : PE X b tb) {pins : List (Addr × Obj)} {s : Shared} {σ : St} {H : Hp} {R : V → V → Hp → Prop} (I : Inv X pins σ H s)
    (h : ta σ H fun x H1 => tb σ H1 fun y H2 => R x y H2) {Q : Value → Shared → Prop} {f : Value → Value → Sem Value}
    (hf : ∀ v u s2 x y H2, Inv X pins σ H2 s2 → RelV x v → RelV y u → R x y H2 → wpAny (model X.prog X.w) X.A (f v u) Q X.xe s2) :
    wpAny (model X.prog X.w) X.A (eval a X.env) (fun v s₁ => wpAny (model X.prog X.w) X.A (eval b X.env) (fun u s₂ => wpAny (model X.prog X.w) X.A (f v u) Q X.xe s₂) X.xe s₁) X.xe s := by
  refine thn (ha pins s σ H _ I h) fun v s1 ⟨x, H1, I1, r1, q1⟩ => ?_
  refine thn (hb pins s1 σ H1 _ I1 q1) fun u s2 ⟨y, H2, I2, r2, q2⟩ => ?_
  exact hf v u s2 x y H2 I2 r1 r2 q2
theorem pe_op {op : Operator} {r : R2} (ho : OpR X (binaryOp op) r) (ha : PE X a ta) (hb : PE X b tb) : PE X (.BinOp a op b pos) (tOp r ta tb) := by
  intro pins s σ H Q I h
  exact wpAny_BinOp (binT ha hb I h fun v u s2 x y H2 I2 rx ry q => ho pins s2 σ H2 x y v u Q I2 rx ry q)
theorem pe_un {op : UnaryOp} {r : V → Hp → VK → Prop} (ho : UnR X (unaryOp op) r) (ha : PE X a ta) : PE X (.UnaryOp op a pos) (tUn r ta) := by
  intro pins s σ H Q I h
  exact UnaryOp_ (thn (ha pins s σ H _ I h) fun v s1 ⟨x, H1, I1, r1, q1⟩ => ho pins s1 σ H1 x v Q I1 r1 q1)
theorem opI {f : Value → Value → Sem Value} {C : Int → Int → Prop} {g : Int → Int → Int}
    (rule : ∀ (i j : Int) (t u : Tok) (s : Shared) (Q : Value → Shared → Prop) (E : Value → Shared → Prop), C i j → Q (.int (g i j) s.toks) { s with toks := s.toks + 1 } → wpAny (model X.prog X.w) X.A (f (.int i t) (.int j u)) Q E s) :
    OpR X f (rI C fun i j => .int (g i j)) := by
  intro pins s σ H x y v u Q I rx ry h
  obtain ⟨i, j, rfl, rfl, hc, q⟩ := h
  obtain ⟨t, rfl⟩ := rx
  obtain ⟨t', rfl⟩ := ry
  exact rule i j t t' s _ _ hc ⟨.int (g i j), H, I.tok _, ⟨_, rfl⟩, q⟩
theorem opI0 {f : Value → Value → Sem Value} {g : Int → Int → Int}
    (rule : ∀ (i j : Int) (t u : Tok) (s : Shared) (Q : Value → Shared → Prop) (E : Value → Shared → Prop), Q (.int (g i j) s.toks) { s with toks := s.toks + 1 } → wpAny (model X.prog X.w) X.A (f (.int i t) (.int j u)) Q E s) :
    OpR X f (rI0 fun i j => .int (g i j)) := by
  intro pins s σ H x y v u Q I rx ry h
  obtain ⟨i, j, rfl, rfl, q⟩ := h
  obtain ⟨t, rfl⟩ := rx
  obtain ⟨t', rfl⟩ := ry
  exact rule i j t t' s _ _ ⟨.int (g i j), H, I.tok _, ⟨_, rfl⟩, q⟩
theorem opB0 {f : Value → Value → Sem Value} {g : Int → Int → Bool}
    (rule : ∀ (i j : Int) (t u : Tok) (s : Shared) (Q : Value → Shared → Prop) (E : Value → Shared → Prop), Q (.bool (g i j)) s → wpAny (model X.prog X.w) X.A (f (.int i t) (.int j u)) Q E s) :
    OpR X f (rI0 fun i j => .bl (g i j)) := by
  intro pins s σ H x y v u Q I rx ry h
  obtain ⟨i, j, rfl, rfl, q⟩ := h
  obtain ⟨t, rfl⟩ := rx
  obtain ⟨t', rfl⟩ := ry
  exact rule i j t t' s _ _ ⟨.bl (g i j), H, I, rfl, q⟩
def CPow (i j : Int) : Prop := 0 ≤ j ∧ j ≤ 1000000 ∧ i.natAbs < 2 ^ 64
def CMul (i j : Int) : Prop := (-(2 ^ 64) < i ∧ i < 2 ^ 64) ∨ (-(2 ^ 64) < j ∧ j < 2 ^ 64)
theorem CMul.ok {i j : Int} (h : CMul i j) : IntMulOk i j := by
  rcases h with ⟨h1, h2⟩ | ⟨h1, h2⟩
  · exact .of_left (intBits_le_64 h1 h2)
  · exact .of_right (intBits_le_64 h1 h2)
theorem two_pow_nn (k : Nat) : (0 : Int) ≤ 2 ^ k := by
  rw [two_pow_cast]
  exact Int.natCast_nonneg _
theorem op_add : OpR X (binaryOp .Add) (rI0 fun i j => .int (i + j)) := opI0 fun _ _ _ _ _ _ _ q => add_int q
theorem op_sub : OpR X (binaryOp .Sub) (rI0 fun i j => .int (i - j)) := opI0 fun _ _ _ _ _ _ _ q => sub_int q
theorem op_mul : OpR X (binaryOp .Mult) (rI CMul fun i j => .int (i * j)) := opI fun _ _ _ _ _ _ _ hc q => mul_int q hc.ok
theorem op_mod : OpR X (binaryOp .Mod) (rI (fun _ j => 0 < j) fun i j => .int (i % j)) := opI fun i j _ _ _ _ _ hc q => by
  have h1 : (0 : Int) < j := hc
  exact mod_int' (by omega) (by rw [Int.fmod_eq_emod_of_nonneg i (by omega)]; exact q)
theorem op_shl : OpR X (binaryOp .LShift) (rI CPow fun i j => .int (i * 2 ^ j.toNat)) := opI fun _ _ _ _ _ _ _ hc q => lshift_int_small hc.1 hc.2.1 hc.2.2 q
theorem op_shr : OpR X (binaryOp .RShift) (rI (fun _ j => 0 ≤ j) fun i j => .int (i / 2 ^ j.toNat)) := opI fun i j _ _ _ _ _ hc q =>
  rshift_int hc (by rw [Int.fdiv_eq_ediv_of_nonneg i (two_pow_nn _)]; exact q)
theorem op_and : OpR X (binaryOp .BitAnd) (rI0 fun i j => .int (Builtin.bitAnd i j)) := opI0 fun _ _ _ _ _ _ _ q => and_int q
theorem op_or : OpR X (binaryOp .BitOr) (rI0 fun i j => .int (Builtin.bitOr i j)) := opI0 fun _ _ _ _ _ _ _ q => or_int q
theorem op_xor : OpR X (binaryOp .BitXor) (rI0 fun i j => .int (Builtin.bitXor i j)) := opI0 fun _ _ _ _ _ _ _ q => xor_int q
theorem unI {f : Value → Sem Value} {g : Int → Int}
    (rule : ∀ (i : Int) (t : Tok) (s : Shared) (Q : Value → Shared → Prop) (E : Value → Shared → Prop), Q (.int (g i) s.toks) { s with toks := s.toks + 1 } → wpAny (model X.prog X.w) X.A (f (.int i t)) Q E s) :
    UnR X f (rU fun i => .int (g i)) := by
  intro pins s σ H x v Q I rx h
  obtain ⟨i, rfl, q⟩ := h
  obtain ⟨t, rfl⟩ := rx
  exact rule i t s _ _ ⟨.int (g i), H, I.tok _, ⟨_, rfl⟩, q⟩
theorem un_neg : UnR X (unaryOp .USub) (rU fun i => .int (-i)) := unI fun _ _ _ _ _ q => neg_int q
theorem un_inv : UnR X (unaryOp .Invert) (rU fun i => .int (Builtin.bitNot i)) := unI fun _ _ _ _ _ q => invert_int q
end
def scal : V → V → Bool
  | .non, .non => true | .non, .int _ => true | .int _, .non => true | .non, .bl _ => true | .bl _, .non => true | .non, .str _ => true | .str _, .non => true
  | .int _, .int _ => true | .bl _, .bl _ => true | .str _, .str _ => true | .byt _, .byt _ => true
  | .int _, .str _ => true | .str _, .int _ => true | .bl _, .str _ => true | .str _, .bl _ => true
  | _, _ => false
def rEq : R2 := fun x y H Q => scal x y = true ∧ Q (.bl (decide (x = y))) H
def rNe : R2 := fun x y H Q => scal x y = true ∧ Q (.bl (!decide (x = y))) H
theorem dec_int {i j : Int} : decide (V.int i = V.int j) = (i == j) := by
  rw [Bool.eq_iff_iff]
  simp
theorem dec_bl {i j : Bool} : decide (V.bl i = V.bl j) = (i == j) := by
  rw [Bool.eq_iff_iff]
  simp
theorem dec_str {i j : Str} : decide (V.str i = V.str j) = (i == j) := by
  rw [Bool.eq_iff_iff]
  simp
theorem dec_byt {i j : Array UInt8} : decide (V.byt i = V.byt j) = (i.toList == j.toList) := by
  rw [Bool.eq_iff_iff]
  cases i
  cases j
  simp
section
variable {X : Cx} {a b c : Expr} {ta tb tc : TE} {pos : Pos}
theorem fin_bl {pins : List (Addr × Obj)} {σ : St} {H : Hp} {s : Shared} {Q : VK} {k k' : Bool} (I : Inv X pins σ H s) (q : Q (.bl k) H) (e : k = k') : EP X pins σ Q (.bool k') s := by
  subst e
  exact ⟨.bl k, H, I, rfl, q⟩
theorem op_eq : OpR X (compareOp .Eq) rEq := by
  intro pins s σ H x y v u Q I rx ry h
  obtain ⟨hs, q⟩ := h
  cases x with
  | non =>
    cases rx
    cases y with
    | non => cases ry; exact PySem.EqNone.eq_none_none (fin_bl I q (by simp))
    | bl j => cases ry; exact PySem.EqNone.eq_none_bool (fin_bl I q (by simp))
    | int j => obtain ⟨t', rfl⟩ := ry; exact PySem.EqNone.eq_none_int (fin_bl I q (by simp))
    | str j => obtain ⟨t', rfl⟩ := ry; exact PySem.EqNone.eq_none_str (fin_bl I q (by simp))
    | _ => exact absurd (show false = true from hs) Bool.false_ne_true
  | bl i =>
    cases rx
    cases y with
    | non => cases ry; exact PySem.EqNone.eq_bool_none (fin_bl I q (by simp))
    | bl j => cases ry; exact eq_bool (fin_bl I q dec_bl)
    | str j => obtain ⟨t', rfl⟩ := ry; exact PySem.EqMixed.eq_bool_str (fin_bl I q (by simp))
    | _ => exact absurd (show false = true from hs) Bool.false_ne_true
  | int i =>
    obtain ⟨t, rfl⟩ := rx
    cases y with
    | non => cases ry; exact PySem.EqNone.eq_int_none (fin_bl I q (by simp))
    | int j => obtain ⟨t', rfl⟩ := ry; exact eq_int (fin_bl I q dec_int)
    | str j => obtain ⟨t', rfl⟩ := ry; exact PySem.EqMixed.eq_int_str (fin_bl I q (by simp))
    | _ => exact absurd (show false = true from hs) Bool.false_ne_true
  | str i =>
    obtain ⟨t, rfl⟩ := rx
    cases y with
    | non => cases ry; exact PySem.EqNone.eq_str_none (fin_bl I q (by simp))
    | bl j => cases ry; exact PySem.EqMixed.eq_str_bool (fin_bl I q (by simp))
    | int j => obtain ⟨t', rfl⟩ := ry; exact PySem.EqMixed.eq_str_int (fin_bl I q (by simp))
    | str j => obtain ⟨t', rfl⟩ := ry; exact eq_str (fin_bl I q dec_str)
    | _ => exact absurd (show false = true from hs) Bool.false_ne_true
  | byt i =>
    obtain ⟨t, rfl⟩ := rx
    cases y with
    | byt j => obtain ⟨t', rfl⟩ := ry; exact PySem.W.eq_bytes (fin_bl I q dec_byt)
    | _ => exact absurd (show false = true from hs) Bool.false_ne_true
  | _ => cases y <;> exact absurd (show false = true from hs) Bool.false_ne_true
theorem op_ne : OpR X (compareOp .NotEq) rNe := by
  intro pins s σ H x y v u Q I rx ry h
  obtain ⟨hs, q⟩ := h
  cases x with
  | non =>
    cases rx
    cases y with
    | non => cases ry; exact PySem.EqNone.ne_none_none (fin_bl I q (by simp))
    | bl j => cases ry; exact PySem.EqNone.ne_none_bool (fin_bl I q (by simp))
    | int j => obtain ⟨t', rfl⟩ := ry; exact PySem.EqNone.ne_none_int (fin_bl I q (by simp))
    | str j => obtain ⟨t', rfl⟩ := ry; exact PySem.EqNone.ne_none_str (fin_bl I q (by simp))
    | _ => exact absurd (show false = true from hs) Bool.false_ne_true
  | bl i =>
    cases rx
    cases y with
    | non => cases ry; exact PySem.EqNone.ne_bool_none (fin_bl I q (by simp))
    | bl j => cases ry; exact ne_bool (fin_bl I q (congrArg not dec_bl))
    | str j => obtain ⟨t', rfl⟩ := ry; exact PySem.EqMixed.ne_bool_str (fin_bl I q (by simp))
    | _ => exact absurd (show false = true from hs) Bool.false_ne_true
  | int i =>
    obtain ⟨t, rfl⟩ := rx
    cases y with
    | non => cases ry; exact PySem.EqNone.ne_int_none (fin_bl I q (by simp))
    | int j => obtain ⟨t', rfl⟩ := ry; exact ne_int (fin_bl I q (congrArg not dec_int))
    | str j => obtain ⟨t', rfl⟩ := ry; exact PySem.EqMixed.ne_int_str (fin_bl I q (by simp))
    | _ => exact absurd (show false = true from hs) Bool.false_ne_true
  | str i =>
    obtain ⟨t, rfl⟩ := rx
    cases y with
    | non => cases ry; exact PySem.EqNone.ne_str_none (fin_bl I q (by simp))
    | bl j => cases ry; exact PySem.EqMixed.ne_str_bool (fin_bl I q (by simp))
    | int j => obtain ⟨t', rfl⟩ := ry; exact PySem.EqMixed.ne_str_int (fin_bl I q (by simp))
    | str j => obtain ⟨t', rfl⟩ := ry; exact ne_str (fin_bl I q (congrArg not dec_str))
    | _ => exact absurd (show false = true from hs) Bool.false_ne_true
  | byt i =>
    obtain ⟨t, rfl⟩ := rx
    cases y with
    | byt j => obtain ⟨t', rfl⟩ := ry; exact PySem.W.ne_bytes (fin_bl I q (congrArg not dec_byt))
    | _ => exact absurd (show false = true from hs) Bool.false_ne_true
  | _ => cases y <;> exact absurd (show false = true from hs) Bool.false_ne_true
theorem op_lt : OpR X (compareOp .Lt) (rI0 fun i j => .bl (decide (i < j))) := opB0 fun _ _ _ _ _ _ _ q => lt_int q
theorem op_le : OpR X (compareOp .LtE) (rI0 fun i j => .bl (decide (i ≤ j))) := opB0 fun _ _ _ _ _ _ _ q => le_int q
theorem op_gt : OpR X (compareOp .Gt) (rI0 fun i j => .bl (decide (j < i))) := opB0 fun _ _ _ _ _ _ _ q => gt_int q
theorem nomark (b : Expr) {op : CmpOp} (h : op ≠ .In := by decide) (h2 : op ≠ .NotIn := by decide) : behindInMarks op b = false := by
  have e1 : (op == CmpOp.In) = false := by cases op <;> first | rfl | exact absurd rfl h
  have e2 : (op == CmpOp.NotIn) = false := by cases op <;> first | rfl | exact absurd rfl h2
  cases b <;> simp [behindInMarks, e1, e2]
theorem pe_cmpR {op : CmpOp} {r : R2} (ho : OpR X (compareOp op) r) (ha : PE X a ta) (hb : PE X b tb) (hm : behindInMarks op b = false) : PE X (.Compare a [op] [b] pos) (tOp r ta tb) := by
  intro pins s σ H Q I h
  exact wpAny_Compare1 (binT ha hb I h fun v u s2 x y H2 I2 rx ry q => ho pins s2 σ H2 x y v u Q I2 rx ry q) hm
def tTest (t : TE) : TT := fun σ H Q => t σ H fun x H' => ∃ k, x = .bl k ∧ Q k H'
theorem pt_cmpR {op : CmpOp} {r : R2} (ho : OpR X (compareOp op) r) (ha : PE X a ta) (hb : PE X b tb) (hm : behindInMarks op b = false) : PT X (.Compare a [op] [b] pos) (tTest (tOp r ta tb)) := by
  intro pins s σ H Q I h
  refine wpAny_isTrue_Compare1 (thn (ha pins s σ H _ I h) fun v s1 ⟨x, H1, I1, r1, q1⟩ => thn (hb pins s1 σ H1 _ I1 q1) fun u s2 ⟨y, H2, I2, r2, q2⟩ =>
    thn (ho pins s2 σ H2 x y v u _ I2 r1 r2 q2) fun c s3 ⟨z, H3, I3, r3, k, e, q3⟩ => ?_) hm
  subst e
  cases r3
  exact wpAny_truthy_bool ⟨H3, I3, q3⟩
def tChain (r r' : R2) (ta tb tc : TE) : TE := fun σ H Q => ta σ H fun x H1 => tb σ H1 fun y H2 => r x y H2 fun z H3 => ∃ k, z = .bl k ∧
  (if k = true then tc σ H3 fun w' H4 => r' y w' H4 Q else Q (.bl false) H3)
theorem pe_chain {op op' : CmpOp} {r r' : R2} (ho : OpR X (compareOp op) r) (ho' : OpR X (compareOp op') r') (ha : PE X a ta) (hb : PE X b tb) (hc : PE X c tc)
    (hm : lastMarks [op, op'] [b, c] = false := by with_unfolding_all rfl) : PE X (.Compare a [op, op'] [b, c] pos) (tChain r r' ta tb tc) := by
  intro pins s σ H Q I h
  refine Compare_chain (thn (ha pins s σ H _ I h) fun v s1 ⟨x, H1, I1, r1, q1⟩ => chain_link (thn (hb pins s1 σ H1 _ I1 q1) fun u s2 ⟨y, H2, I2, r2, q2⟩ =>
    thn (ho pins s2 σ H2 x y v u _ I2 r1 r2 q2) fun d s3 ⟨z, H3, I3, r3, k, e, q3⟩ => ?_)) hm
  subst e
  cases r3
  refine wpAny_truthy_bool ?_
  cases k with
  | false => exact ite_ff ⟨.bl false, H3, I3, rfl, q3⟩
  | true => exact ite_tt (chain_last (thn (hc pins s3 σ H3 _ I3 q3) fun w' s4 ⟨z', H4, I4, r4, q4⟩ => ho' pins s4 σ H4 y z' u w' Q I4 r2 r4 q4))
theorem pt_chain {op op' : CmpOp} {r r' : R2} (ho : OpR X (compareOp op) r) (ho' : OpR X (compareOp op') r') (ha : PE X a ta) (hb : PE X b tb) (hc : PE X c tc)
    (hm : lastMarks [op, op'] [b, c] = false := by with_unfolding_all rfl) : PT X (.Compare a [op, op'] [b, c] pos) (tTest (tChain r r' ta tb tc)) := by
  intro pins s σ H Q I h
  refine isTrue_chain (thn (ha pins s σ H _ I h) fun v s1 ⟨x, H1, I1, r1, q1⟩ => test_link (thn (hb pins s1 σ H1 _ I1 q1) fun u s2 ⟨y, H2, I2, r2, q2⟩ =>
    thn (ho pins s2 σ H2 x y v u _ I2 r1 r2 q2) fun d s3 ⟨z, H3, I3, r3, k, e, q3⟩ => ?_)) hm
  subst e
  cases r3
  refine wpAny_truthy_bool ?_
  cases k with
  | false =>
    obtain ⟨k', e', q'⟩ := q3
    cases e'
    exact ite_ff ⟨H3, I3, q'⟩
  | true =>
    refine ite_tt (test_last (thn (hc pins s3 σ H3 _ I3 q3) fun w' s4 ⟨z', H4, I4, r4, q4⟩ => thn (ho' pins s4 σ H4 y z' u w' _ I4 r2 r4 q4) fun d' s5 ⟨z2, H5, I5, r5, k2, e2, q5⟩ => ?_))
    subst e2
    cases r5
    exact wpAny_truthy_bool ⟨H5, I5, q5⟩
theorem line63 : (sizeLine : Nat) < 2 ^ 63 := by rw [sizeLine_eq]; decide
theorem vals1 {x : V} {us : List Value} (r : Vals [x] us) : ∃ u, us = [u] ∧ RelV x u := by
  cases r with
  | cons r1 r2 => cases r2; exact ⟨_, rfl, r1⟩
end
end L2
namespace L2
open PySem PySem.Spec PyProof.Rows
structure ObjM (h : Heap) (x dx C : Addr) (mA : Str → Option Value) : Prop where
  obj : h.get? x = some (PySem.W.instObj C dx)
  ns : h.Ns1 dx mA
  ne : dx ≠ x
theorem lookIn_ns {h : Heap} {dx : Addr} {mA : Str → Option Value} (n : h.Ns1 dx mA) : ∃ od, h.get? dx = some od ∧ ∀ name, PySem.W.lookIn name od = some (mA name) := by
  obtain ⟨o, es, ep, ho, hd, hk, _, hm⟩ := n
  refine ⟨o, ho, fun name => ?_⟩
  have e := hm name
  unfold nsFind findBy at e
  rw [← Array.find?_toList] at e
  unfold PySem.W.lookIn
  rw [hd]
  dsimp only
  split
  · rename_i y q
    rw [q] at e
    exact congrArg some e
  · rename_i q
    rw [q] at e
    have a : es.toList.any (·.refKey) = false := by
      rw [List.any_eq_false]
      intro y hy
      obtain ⟨z, t, hkey⟩ := hk y (Array.mem_toList_iff.mp hy)
      simp [DictEntry.refKey, hkey]
    have a' : ¬ es.toList.any (·.refKey) = true := by rw [a]; exact Bool.false_ne_true
    rw [if_neg a']
    exact congrArg some e
theorem ObjM.look {h : Heap} {x dx C : Addr} {mA : Str → Option Value} (I : ObjM h x dx C mA) : ∃ od, PySem.W.InstAt h x (PySem.W.instObj C dx) C (some od) ∧ ∀ name, PySem.W.lookIn name od = some (mA name) :=
  let ⟨od, ho, hl⟩ := lookIn_ns I.ns
  ⟨od, ⟨I.obj, rfl, rfl, ho⟩, hl⟩
section
variable {prog : Program} {w : World} {A : Around} {E : Value → Shared → Prop} {s : Shared} {K : PySem.W.Frag} {x dx C f : Addr} {mA : Str → Option Value} {name : Str} {v : Value}
theorem get_map {expr : Bool} {Q : Value → Shared → Prop} (X : K.In s.heap) (I : ObjM s.heap x dx C mA) (hg : PySem.W.plainGet K C name = true) (hh : PySem.W.hasDictIn K C = true)
    (ha : PySem.W.findIn K (.ref C) name = some none) (hv : mA name = some v) (hv' : PySem.W.handedIn v = true) (h : Q v { s with toks := s.toks + 1 }) :
    wpAny (model prog w) A (getAttr (.ref x) name expr) Q E s := by
  obtain ⟨od, J, hl⟩ := I.look
  exact PySem.W.get_value X J (PySem.W.plainGet_of hg).1 (PySem.W.findObj_own hh ha rfl (by rw [hl, hv])) hv' h
theorem get_meth {pl : Sem Bool} {Q : Value × List Value → Shared → Prop} (X : K.In s.heap) (I : ObjM s.heap x dx C mA) (hg : PySem.W.plainGet K C name = true)
    (hf : PySem.W.findIn K (.ref C) name = some (some (.ref f))) (ht : PySem.W.isFn K (.ref f) = true) (hv : mA name = none) (h : Q (.ref f, [.ref x]) s) :
    wpAny (model prog w) A (getMethod (.ref x) name pl) Q E s := by
  obtain ⟨od, J, hl⟩ := I.look
  exact PySem.W.method_fn X J (PySem.W.plainGet_of hg).1 (PySem.W.plainGet_of hg).2 hf (beq_iff_eq.mp ht) (by show (PySem.W.lookIn name od).map (·.isSome) = some false; rw [hl, hv]; rfl) h
theorem set_map {ns : List Str} {Q : Unit → Shared → Prop} (X : K.In s.heap) (I : ObjM s.heap x dx C mA)
    (hs : PySem.W.findIn K (.ref C) "__setattr__" = some (some (.builtin "object.__setattr__"))) (hp : PySem.W.plainOver K C = true) (ht : PySem.W.takerIn K C name = some none) (hh : PySem.W.hasDictIn K C = true)
    (hw : PySem.Within mA ns) (hsz : ns.length ≤ sizeLine)
    (h : ∀ h', ObjM h' x dx C (fun y => if y = name then some v else mA y) → Heap.SameBut dx s.heap h' → Q () { s with heap := h', toks := s.toks + 2 }) :
    wpAny (model prog w) A (setAttr (.ref x) name v) Q E s := by
  obtain ⟨od, J, hl⟩ := I.look
  refine PySem.W.set_plain X J hs (PySem.W.osa_open (s := { s with toks := s.toks + 1 }) (r := none) X J hp ht fun b => ?_)
  obtain ⟨cd, hc, hd'⟩ := PySem.W.any_some hh
  have hx : s.heap.get? x = some ⟨.ref C, some dx, .plain, #[]⟩ := I.obj
  refine wpAny_bind (wpAny_pure (wpAny_bind (wpAny_bind (wpAny_loadPart hx (wpAny_bind (PySem.W.Looks.here (s := { s with toks := s.toks + 1 }) (PySem.W.looks_clsIn X hc) ?_))))))
  rw [hd']
  refine wpAny_pure (a := some dx) (wpAny_bind (wpAny_pure (wpAny_bind ?_)))
  refine wpAny_nsSet1 (s := { s with toks := s.toks + 1 }) I.ns fun h' hn2 hs2 => ?_
  obtain ⟨oD, esD, epD, hoD, hdD, hcD⟩ := hn2.count (PySem.Within.cons name v hw)
  refine wpAny_bind (wpAny_lookBehind hoD (by rw [hdD]; exact pastItsLine_dict (Nat.le_trans hcD (by rw [List.length_cons]; omega))) ?_)
  exact wpAny_pure (h _ ⟨(hs2.2 _ (Ne.symm I.ne)).trans I.obj, hn2, I.ne⟩ hs2)
theorem make_map {R : Result → Shared → Prop} {vs : List Value} {kw : List (Str × Value)} (X : K.In s.heap) (hm : PySem.W.makesIn K C = true)
    (hi : PySem.W.findIn K (.ref C) "__init__" = some (some (.ref f))) (hf : PySem.W.typeIn K (.ref f) = some (.type "function"))
    (h : codeAny (model prog w) (A.under (.builtin "type.__call__" ⟨.ref C :: vs, kw⟩)) (.call (.ref f) ⟨.ref (s.heap.objs.size + 1) :: vs, kw⟩) (PySem.W.InitBack (s.heap.objs.size + 1) R)
      { s with heap := (s.heap.push PySem.W.emptyDict).push (PySem.W.instObj C s.heap.objs.size) }) :
    codeAny (model prog w) A (.call (.ref C) ⟨vs, kw⟩) R s := by
  obtain ⟨hh, g, d, t, os⟩ := s
  exact PySem.W.make_core (PySem.W.makes_of X hm) (PySem.W.looks_findIn X hi) (fun self => PySem.W.bind_fn X self hf) (.inl rfl) h
end
def putF (f : Str) (v : V) : List (Str × V) → List (Str × V)
  | [] => [(f, v)]
  | (g, x) :: r => if g = f then (g, v) :: r else (g, x) :: putF f v r
theorem lookup_putF (f g : Str) (v : V) : ∀ fs : List (Str × V), (putF f v fs).lookup g = if g = f then some v else fs.lookup g
  | [] => by
    show List.lookup g [(f, v)] = _
    by_cases h : g = f
    · have hb : (g == f) = true := beq_iff_eq.mpr h
      simp only [List.lookup, hb, if_pos h]
    · have hb : (g == f) = false := beq_eq_false_iff_ne.mpr h
      simp only [List.lookup, hb, if_neg h]
  | (k, x) :: r => by
    have ih := lookup_putF f g v r
    rw [show putF f v ((k, x) :: r) = (if k = f then (k, v) :: r else (k, x) :: putF f v r) from rfl]
    by_cases hk : k = f
    · rw [if_pos hk]
      by_cases h : g = k
      · have hb : (g == k) = true := beq_iff_eq.mpr h
        simp only [List.lookup, hb, if_pos (h.trans hk)]
      · have hb : (g == k) = false := beq_eq_false_iff_ne.mpr h
        simp only [List.lookup, hb, if_neg (fun e : g = f => h (e.trans hk.symm))]
    · rw [if_neg hk]
      by_cases h : g = k
      · have hb : (g == k) = true := beq_iff_eq.mpr h
        simp only [List.lookup, hb, if_neg (fun e : g = f => hk (h.symm.trans e))]
      · have hb : (g == k) = false := beq_eq_false_iff_ne.mpr h
        simp only [List.lookup, hb]
        exact ih
theorem keys_putF (f : Str) (v : V) : ∀ fs : List (Str × V), f ∈ (putF f v fs).map (·.1) ∧ ∀ g, g ∈ fs.map (·.1) → g ∈ (putF f v fs).map (·.1)
  | [] => ⟨by simp [putF], fun g h => by simp at h⟩
  | (k, x) :: r => by
    obtain ⟨i1, i2⟩ := keys_putF f v r
    rw [show putF f v ((k, x) :: r) = (if k = f then (k, v) :: r else (k, x) :: putF f v r) from rfl]
    by_cases hk : k = f
    · rw [if_pos hk]
      subst hk
      exact ⟨by simp, fun g h => by simpa using h⟩
    · rw [if_neg hk]
      refine ⟨?_, fun g h => ?_⟩
      · rw [List.map_cons]
        exact List.mem_cons_of_mem _ i1
      · rw [List.map_cons] at h ⊢
        rcases List.mem_cons.mp h with e | e
        · exact List.mem_cons.mpr (.inl e)
        · exact List.mem_cons_of_mem _ (i2 g e)
theorem length_putF (f : Str) (v : V) : ∀ fs : List (Str × V), (putF f v fs).length ≤ fs.length + 1
  | [] => by simp [putF]
  | (k, x) :: r => by
    have ih := length_putF f v r
    rw [show putF f v ((k, x) :: r) = (if k = f then (k, v) :: r else (k, x) :: putF f v r) from rfl]
    by_cases hk : k = f
    · rw [if_pos hk, List.length_cons, List.length_cons]; omega
    · rw [if_neg hk, List.length_cons, List.length_cons]; omega
theorem RelO.some_of {v : V} {o : Option Value} (r : RelO (some v) o) : ∃ u, o = some u ∧ RelV v u := by
  cases o with
  | none => exact (show False from r).elim
  | some u => exact ⟨u, rfl, r⟩
theorem RelO.none_of {o : Option Value} (r : RelO none o) : o = none := by
  cases o with
  | none => rfl
  | some u => exact (show False from r).elim
theorem handed_of {v : V} {u : Value} (r : RelV v u) : PySem.W.handedIn u = true := by
  cases v with
  | non => cases (show u = Value.none from r); rfl
  | bl b => cases (show u = Value.bool b from r); rfl
  | int i => obtain ⟨t, e⟩ := (show ∃ t, u = Value.int i t from r); cases e; rfl
  | str x => obtain ⟨t, e⟩ := (show ∃ t, u = Value.str x t from r); cases e; rfl
  | byt b => obtain ⟨t, e⟩ := (show ∃ t, u = Value.bytes b t from r); cases e; rfl
  | flt b => obtain ⟨t, e⟩ := (show ∃ t, u = Value.float b t from r); cases e; rfl
  | ref a => cases (show u = Value.ref a from r); rfl
  | ty n => cases (show u = Value.type n from r); rfl
section
variable {P : Program} {w : World} {H H' : Hp} {h h' : Heap} {a C dx : Addr} {fs fs' : List (Str × V)}
theorem ins_get (hok : HOk P w H h) (e : H a = some (.ins C dx fs)) : ∃ mA, ObjM h a dx C mA ∧ (∀ f, RelO (fs.lookup f) (mA f)) ∧ PySem.Within mA (fs.map (·.1)) ∧ fs.length ≤ 1000 ∧ H dx = some (.own a) := by
  obtain ⟨d, z, ne, ob, mA, n, r, q⟩ := (show ObjOk P w H h a (.ins C dx fs) from hok a _ e)
  exact ⟨mA, ⟨ob, n, ne⟩, r, q, z, d⟩
end
structure Cls (K : PySem.W.Frag) (C : Addr) : Prop where
  pg : PySem.W.plainGet K C Str.empty = true
  hd : PySem.W.hasDictIn K C = true
  po : PySem.W.plainOver K C = true
  sa : PySem.W.findIn K (.ref C) "__setattr__" = some (some (.builtin "object.__setattr__"))
theorem Cls.get {K : PySem.W.Frag} {C : Addr} (c : Cls K C) (f : Str) : PySem.W.plainGet K C f = true := c.pg
def NoAttr (K : PySem.W.Frag) (C : Addr) (f : Str) : Prop := PySem.W.findIn K (.ref C) f = some none
theorem NoAttr.taker {K : PySem.W.Frag} {C : Addr} {f : Str} (n : NoAttr K C f) : PySem.W.takerIn K C f = some none := by
  unfold PySem.W.takerIn
  rw [show PySem.W.findIn K (.ref C) f = some none from n]
  rfl
structure Meth (K : PySem.W.Frag) (C : Addr) (m : Str) (f : Addr) : Prop where
  at_ : PySem.W.findIn K (.ref C) m = some (some (.ref f))
  fn : PySem.W.isFn K (.ref f) = true
  kp : PySem.W.keepIn K (.ref f) = true
section
variable {X : Cx} {pins : List (Addr × Obj)} {σ : St} {H : Hp} {s : Shared} {a C dx : Addr} {fs : List (Str × V)} {f : Str} {v : V} {A : Around} {E : Value → Shared → Prop}
theorem getattr_ok {b : Bool} {Q : Value → Shared → Prop} (I : Inv X pins σ H s) (e : H a = some (.ins C dx fs)) (c : Cls X.K C) (n : NoAttr X.K C f) (l : fs.lookup f = some v)
    (h : ∀ u s', Inv X pins σ H s' → RelV v u → Q u s') : wpAny (model X.prog X.w) A (getAttr (.ref a) f b) Q E s := by
  obtain ⟨mA, O, r, _, _, _⟩ := ins_get I.hok e
  obtain ⟨u, hu, ru⟩ := RelO.some_of (v := v) (o := mA f) (by rw [← l]; exact r f)
  exact get_map I.kIn O (c.get f) c.hd n hu (handed_of ru) (h u _ (I.tok _) ru)
theorem getmeth_ok {m : Str} {g : Addr} {pl : Sem Bool} {Q : Value × List Value → Shared → Prop} (I : Inv X pins σ H s) (e : H a = some (.ins C dx fs)) (c : Cls X.K C) (k : Meth X.K C m g) (l : fs.lookup m = none)
    (h : Q (.ref g, [.ref a]) s) : wpAny (model X.prog X.w) A (getMethod (.ref a) m pl) Q E s := by
  obtain ⟨mA, O, r, _, _, _⟩ := ins_get I.hok e
  have hn : mA m = none := RelO.none_of (by rw [← l]; exact r m)
  exact get_meth I.kIn O (c.get m) k.at_ k.fn hn h
theorem setattr_ok {y : V} {u : Value} {Q : Unit → Shared → Prop} (I : Inv X pins σ H s) (e : H a = some (.ins C dx fs)) (c : Cls X.K C) (n : NoAttr X.K C f) (hl : fs.length < 1000) (ry : RelV y u)
    (h : ∀ s', Inv X pins σ (upd H a (.ins C dx (putF f y fs))) s' → Q () s') : wpAny (model X.prog X.w) A (setAttr (.ref a) f u) Q E s := by
  obtain ⟨mA, O, r, wi, _, ho⟩ := ins_get I.hok e
  have hz : (fs.map (·.1)).length ≤ sizeLine := by rw [List.length_map, sizeLine_eq]; omega
  refine set_map I.kIn O c.sa c.po n.taker c.hd wi hz fun h' O' sb => h _ ?_
  have hd : ∃ o, h'.get? dx = some o := let ⟨o, _, _, e', _⟩ := O'.ns; ⟨o, e'⟩
  refine I.write (x := a) (e := dx) (by rw [e]; exact True.intro) (.inr ho) (fun b q hb z => (sb.2 b hb).trans z) hd ?_
  refine ⟨by rw [upd_ne O.ne]; exact ho, ?_, O.ne, O'.obj, _, O'.ns, fun g => ?_, fun g hg => ?_⟩
  · have := length_putF f y fs; omega
  · show RelO ((putF f y fs).lookup g) (if g = f then some u else mA g)
    rw [lookup_putF]
    by_cases q : g = f
    · rw [if_pos q, if_pos q]; exact ry
    · rw [if_neg q, if_neg q]; exact r g
  · by_cases q : g = f
    · rw [q]; exact (keys_putF f y fs).1
    · refine (keys_putF f y fs).2 g (wi g fun z => hg ?_)
      show (if g = f then some u else mA g) = none
      rw [if_neg q]; exact z
theorem Inv.made (I : Inv X pins σ H s) : Inv X pins σ (upd (upd H s.heap.objs.size (.own (s.heap.objs.size + 1))) (s.heap.objs.size + 1) (.ins C s.heap.objs.size []))
    { s with heap := (s.heap.push PySem.W.emptyDict).push (PySem.W.instObj C s.heap.objs.size) } := by
  have e1 : (s.heap.push PySem.W.emptyDict).get? s.heap.objs.size = some PySem.W.emptyDict := Heap.get?_push_size s.heap rfl
  have e2 : ((s.heap.push PySem.W.emptyDict).push (PySem.W.instObj C s.heap.objs.size)).get? (s.heap.objs.size + 1) = some (PySem.W.instObj C s.heap.objs.size) := by
    have := Heap.get?_push_size (s.heap.push PySem.W.emptyDict) (o := PySem.W.instObj C s.heap.objs.size) rfl
    rwa [Heap.size_push] at this
  have e3 : (s.heap.push PySem.W.emptyDict).Ns s.heap.objs.size (fun _ => none) := ⟨PySem.W.emptyDict, #[], _, e1, rfl, (fun e he => absurd he (by simp)), fun _ => rfl⟩
  have I1 := I.laid (a := s.heap.objs.size) (o := .own (s.heap.objs.size + 1)) (h' := s.heap.push PySem.W.emptyDict) (t' := s.toks) (fun b u q => Heap.get?_push_of_some _ q) (Nat.le_refl _) ⟨_, e1⟩
  refine I1.laid (a := s.heap.objs.size + 1) (o := .ins C s.heap.objs.size []) (t' := s.toks) (fun b u q => Heap.get?_push_of_some _ q) (Nat.le_of_eq (Heap.size_push _ _)) ?_
  have ne : s.heap.objs.size ≠ s.heap.objs.size + 1 := Nat.ne_of_lt (Nat.lt_succ_self _)
  refine ⟨by rw [upd_ne ne, upd_same], Nat.zero_le _, ne, e2, fun _ => none, (Heap.Ns1.of_empty e3).at fun o q => Heap.get?_push_of_some _ q, fun _ => True.intro, fun y hy => absurd rfl hy⟩
theorem attr_of {prog : Program} {w : World} {env : Env} {e : Expr} {f : Str} {pos : Pos} {s : Shared} {Q : Value → Shared → Prop} (hb : attributeBase e f env (eval e env) = eval e env)
    (h : wpAny (model prog w) A (eval e env) (fun o s₁ => wpAny (model prog w) A (getAttr o f true) Q E s₁) E s) : wpAny (model prog w) A (eval (.Attribute e f pos) env) Q E s :=
  Attribute_any_ h (by rw [arm_eval_Attribute, hb])
end
def tFld (K : PySem.W.Frag) (ta : TE) (f : Str) : TE := fun σ H Q => ta σ H fun x H1 => ∃ a C dx fs v, x = .ref a ∧ H1 a = some (.ins C dx fs) ∧ Cls K C ∧ NoAttr K C f ∧ fs.lookup f = some v ∧ Q v H1
def sFld (K : PySem.W.Frag) (ta tv : TE) (f : Str) : TS := fun D σ H => tv σ H fun y H1 => ta σ H1 fun x H2 => ∃ a C dx fs, x = .ref a ∧ H2 a = some (.ins C dx fs) ∧ Cls K C ∧ NoAttr K C f ∧ fs.length < 1000 ∧
  D.nx σ (upd H2 a (.ins C dx (putF f y fs)))
section
variable {X : Cx} {o e value : Expr} {f : Str} {pos pos' tpos : Pos} {ta tv : TE}
theorem pe_fld (he : PE X e ta) (hb : attributeBase e f X.env (eval e X.env) = eval e X.env) : PE X (.Attribute e f pos) (tFld X.K ta f) := by
  intro pins s σ H Q I h
  refine attr_of hb (thn (he pins s σ H _ I h) fun u s1 ⟨x, H1, I1, rx, a, C, dx, fs, v, ex, ea, c, n, l, q⟩ => ?_)
  subst ex
  obtain rfl : u = Value.ref a := rx
  exact getattr_ok I1 ea c n l fun u' s2 I2 ru => ⟨v, H1, I2, ru, q⟩
theorem ps_fld (ha : PE X o ta) (hv : PE X value tv) (hs : swapsWith value (some (.Attribute o f pos')) pos.line X.env = pure false) : PS X (.Assign [.Attribute o f pos'] value pos) (sFld X.K ta tv f) := by
  intro pins s σ H D I h
  refine plainObj_wpAny_Assign_Attribute (thn (hv pins s σ H _ I h) fun u s1 ⟨y, H1, I1, ry, q⟩ => thn (ha pins s1 σ H1 _ I1 q) fun ov s2 ⟨x, H2, I2, rx, a, C, dx, fs, ex, ea, c, n, l, q2⟩ => ?_) hs
  subst ex
  obtain rfl : ov = Value.ref a := rx
  exact setattr_ok I2 ea c n l ry fun s3 I3 => ⟨σ, _, I3, q2⟩
end
section
variable {X : Cx} {pins : List (Addr × Obj)} {σ : St} {H : Hp} {s : Shared} {A : Around} {E : Value → Shared → Prop} {Q : Value → Shared → Prop} {c : Value} {b : Bool}
end
end L2
namespace L2
open PySem PySem.Spec PyProof.Rows
structure Room (k : Nat) (A : Around) : Prop where
  hd : A.handled = none
  dp : A.depth + 3 * k + 5 < recursionLimit
  un : A.units + 16 * k + 200 < cLine
theorem Room.mono {j k : Nat} {A : Around} (r : Room k A) (h : j ≤ k) : Room j A := ⟨r.hd, by have := r.dp; omega, by have := r.un; omega⟩
theorem Room.deeper {k : Nat} {A : Around} (r : Room (k + 1) A) (env : Env) : Room k (A.deeper env) :=
  ⟨r.hd, by have := r.dp; show A.depth + 1 + 3 * k + 5 < _; omega, by have := r.un; show A.units + 3 + 16 * k + 200 < _; omega⟩
theorem make_depth {A : Around} {C : Addr} {us : List Value} {kw : List (Str × Value)} : (A.under (.builtin "type.__call__" ⟨.ref C :: us, kw⟩)).depth = A.depth + 1 := by
  first | rfl | simp [Around.under, Code.weight, Code.isCreation, Code.isGuard, Code.isCaller, Code.frames, Code.isFrame, guardIds]
theorem make_units {A : Around} {C : Addr} {us : List Value} {kw : List (Str × Value)} : (A.under (.builtin "type.__call__" ⟨.ref C :: us, kw⟩)).units = A.units + 1 := by
  first | rfl | simp [Around.under, Code.cUnits, Code.frames, Code.isFrame]
theorem Room.make {k : Nat} {A : Around} (r : Room (k + 1) A) (C : Addr) (us : List Value) (kw : List (Str × Value)) : Room k (A.under (.builtin "type.__call__" ⟨.ref C :: us, kw⟩)) :=
  ⟨r.hd, by have := r.dp; rw [make_depth]; omega, by have := r.un; rw [make_units]; omega⟩
theorem Room.depth {k : Nat} {A : Around} (r : Room k A) : A.depth < recursionLimit := by have := r.dp; omega
def tNil : TA := fun _ H Q => Q [] H
def tCons (ta : TE) (tr : TA) : TA := fun σ H Q => ta σ H fun x H1 => tr σ H1 fun xs H2 => Q (x :: xs) H2
section
variable {X : Cx} {e : Expr} {es : List Expr} {te : TE} {t : TA} {pos : Pos}
theorem pa_nil : PA X [] tNil := fun _ _ _ _ H Q I h => Calls.spliced_nil ⟨[], H, I, .nil, h⟩
theorem pa_cons (ha : PE X e te) (hr : PA X es t) (hs : starEach (e :: es) X.env = (false, eval e X.env) :: starEach es X.env := by rfl) : PA X (e :: es) (tCons te t) := by
  intro pos pins s σ H Q I h
  rw [hs]
  show wpAny _ _ (spliced ((false, eval e X.env) :: backTo pos (starEach es X.env))) _ _ s
  refine Calls.spliced_cons (thn (ha pins s σ H _ I h) fun u s1 ⟨x, H1, I1, r1, q1⟩ => ?_)
  exact thn (hr pos pins s1 σ H1 _ I1 q1) fun us s2 ⟨xs, H2, I2, r2, q2⟩ => ⟨x :: xs, H2, I2, .cons r1 r2, q2⟩
def tTup (t : TA) : TE := fun σ H Q => t σ H fun xs H1 => xs.length ≤ sizeLine ∧ ∀ p, H1 p = none → Q (.ref p) (upd H1 p (.tup xs))
def tLst (t : TA) : TE := fun σ H Q => t σ H fun xs H1 => xs.length ≤ sizeLine ∧ ∀ p, H1 p = none → Q (.ref p) (upd H1 p (.lst xs))
theorem pe_tup {x1} (h : PA X es t) : PE X (.Tuple es x1 pos) (tTup t) := by
  intro pins s σ H Q I hq
  refine wpAny_Tuple_spliced (thn (h pos pins s σ H _ I hq) fun us s1 ⟨xs, H1, I1, r, z, q⟩ => ⟨by rw [← r.length]; exact z, ?_⟩)
  have hf : H1 s1.heap.objs.size = none := I1.hok.fresh (Nat.le_refl _)
  refine ⟨.ref s1.heap.objs.size, upd H1 s1.heap.objs.size (.tup xs), I1.laid (t' := s1.toks) (fun b u e => Heap.get?_push_of_some _ e) (Nat.le_refl _) ?_, rfl, q _ hf⟩
  exact ⟨z, us, r, ⟨_, Heap.get?_push_size _ rfl, rfl, _, rfl⟩⟩
theorem pe_lst (h : PA X es t) : PE X (.List es pos) (tLst t) := by
  intro pins s σ H Q I hq
  refine wpAny_List_spliced (thn (h pos pins s σ H _ I hq) fun us s1 ⟨xs, H1, I1, r, z, q⟩ => ⟨by rw [← r.length]; exact z, ?_⟩)
  have hf : H1 s1.heap.objs.size = none := I1.hok.fresh (Nat.le_refl _)
  refine ⟨.ref s1.heap.objs.size, upd H1 s1.heap.objs.size (.lst xs), I1.laid (t' := s1.toks) (fun b u e => Heap.get?_push_of_some _ e) (Nat.le_refl _) ?_, rfl, q _ hf⟩
  exact ⟨z, us, 0, r, Heap.get?_push_size _ rfl⟩
end
abbrev Sp := List V → Hp → VK → XK → Prop
abbrev CXT := List Env → Hp → Shared → XK → Value → Shared → Prop
structure Env0 (P : Program) (w : World) (K : PySem.W.Frag) (mg : Str → Option Value) (base : Heap) (A : Around) (outer : List Env) (s : Shared) (H : Hp) : Prop where
  frames : A.frames = some outer
  mod : Mod K mg base
  bs : ∀ b o, base.get? b = some o → s.heap.get? b = some o ∧ H b = none
  bsz : base.objs.size ≤ s.heap.objs.size
  funs : s.heap.FunFrames base outer
  frf : ∀ b ∈ frs outer, H b = none
  hok : HOk P w H s.heap
  bare : AllBare s.gens
def CE (outer : List Env) (P : Program) (w : World) (H : Hp) (s : Shared) (Q : VK) (u : Value) (s' : Shared) : Prop :=
  ∃ v H', s'.os = s.os ∧ AllBare s'.gens ∧ Un (frs outer) [] H H' s.heap s'.heap ∧ HOk P w H' s'.heap ∧ RelV v u ∧ Q v H'
def CR (CX : CXT) (outer : List Env) (P : Program) (w : World) (H : Hp) (s : Shared) (Q : VK) (E : XK) (r : Result) (s' : Shared) : Prop :=
  match r with
  | .ok (.ret u) => CE outer P w H s Q u s'
  | .ok _ => False
  | .error e => CX outer H s E e s'
structure FnOk (P : Program) (w : World) (K : PySem.W.Frag) (mg : Str → Option Value) (base : Heap) (CX : CXT) (k : Nat) (f : Addr) (fd : FuncData) (ps : List Str) (sp : Sp) : Prop where
  len : ∀ vs H Q E, sp vs H Q E → vs.length = ps.length
  run : ∀ (A : Around) (outer : List Env) (s : Shared) (H : Hp) (args : Args) (us : List Value) (vs : List V) (Q : VK) (E : XK), Room k A → Env0 P w K mg base A outer s H → BindsTo s fd args (ps.zip us) → Vals vs us → sp vs H Q E →
    codeAny (model P w) A (.call (.ref f) args) (CR CX outer P w H s Q E) s
theorem FnOk.imp {P : Program} {w : World} {K : PySem.W.Frag} {mg : Str → Option Value} {base : Heap} {CX : CXT} {k : Nat} {f : Addr} {fd : FuncData} {ps : List Str} {sp sp' : Sp} (F : FnOk P w K mg base CX k f fd ps sp)
    (h : ∀ vs H Q E, sp' vs H Q E → sp vs H Q E) : FnOk P w K mg base CX k f fd ps sp' :=
  ⟨fun vs H Q E q => F.len vs H Q E (h _ _ _ _ q), fun A outer s H args us vs Q E hr he hb hv hs => F.run A outer s H args us vs Q E hr he hb hv (h _ _ _ _ hs)⟩
theorem Env0.make {P : Program} {w : World} {K : PySem.W.Frag} {mg : Str → Option Value} {base : Heap} {A : Around} {outer : List Env} {s : Shared} {H : Hp} (e : Env0 P w K mg base A outer s H) (C : Addr) (us : List Value) (kw : List (Str × Value)) :
    Env0 P w K mg base (A.under (.builtin "type.__call__" ⟨.ref C :: us, kw⟩)) outer s H := ⟨by first | exact e.frames | (simpa [Around.under, Code.envs, Code.isFrame, pushEnvs] using e.frames), e.mod, e.bs, e.bsz, e.funs, e.frf, e.hok, e.bare⟩
section
variable {X : Cx} {pins : List (Addr × Obj)} {σ : St} {H : Hp} {s s' : Shared}
theorem Inv.env0 (I : Inv X pins σ H s) : Env0 X.prog X.w X.K X.mg X.base X.A X.stack s H :=
  ⟨I.ok.frames, I.ok.mod, I.bs, Nat.le_trans I.ok.bsz I.sz, I.stack, I.stkFree, I.hok, I.bare⟩
theorem Inv.after {Q : VK} {u : Value} (I : Inv X pins σ H s) (h : CE X.stack X.prog X.w H s Q u s') : EP X pins σ Q u s' := by
  obtain ⟨v, H', os, bare, un, hok, r, q⟩ := h
  obtain ⟨hh, g, d, t, os'⟩ := s'
  obtain rfl : os' = s.os := os
  exact ⟨v, H', I.call (h' := hh) (g' := g) (d' := d) (t' := t) (ch := []) un hok bare (fun b z => absurd z (by simp)), r, q⟩
end
def tCall (sp : Sp) (dvs : List V) (E : XK) (t : TA) : TE := fun σ H Q => t σ H fun vs H1 => sp (vs ++ dvs) H1 Q E
def tMeth (C : Addr) (m : Str) (sp : Sp) (dvs : List V) (E : XK) (ta : TE) (t : TA) : TE := fun σ H Q => ta σ H fun x H1 => ∃ a dx fs, x = .ref a ∧ H1 a = some (.ins C dx fs) ∧ fs.lookup m = none ∧
  t σ H1 fun vs H2 => sp (x :: (vs ++ dvs)) H2 Q E
def tMake (C : Addr) (sp : Sp) (dvs : List V) (E : XK) (t : TA) : TE := fun σ H Q => t σ H fun vs H1 => ∀ x dx, H1 x = none → H1 dx = none → dx ≠ x →
  sp (.ref x :: (vs ++ dvs)) (upd (upd H1 dx (.own x)) x (.ins C dx [])) (fun v H2 => v = .non ∧ Q (.ref x) H2) E
def Binds (K : PySem.W.Frag) (fd : FuncData) (ps : List Str) (ds : List Value) : Prop :=
  ∀ (s : Shared) (us : List Value), K.In s.heap → (us ++ ds).length = ps.length → BindsTo s fd ⟨us, []⟩ (ps.zip (us ++ ds))
theorem Binds.all {K : PySem.W.Frag} {fd : FuncData} {ps : List Str} (h : ∀ us : List Value, us.length = ps.length → bindArgs fd ⟨us, []⟩ = pure (ps.zip us)) : Binds K fd ps [] := fun s us _ hl => by
  rw [List.append_nil] at hl ⊢
  exact .of_eq (h us hl)
def Passes (CX : CXT) (X : Cx) (E : XK) : Prop := ∀ (pins : List (Addr × Obj)) (σ : St) (H : Hp) (s : Shared) (e : Value) (s' : Shared), Inv X pins σ H s → CX X.stack H s E e s' → X.xe e s'
section
variable {X : Cx} {CX : CXT} {k : Nat} {f C : Addr} {fd : FuncData} {ps : List Str} {sp : Sp} {dvs : List V} {ds : List Value} {E : XK} {x m : Str} {p pos apos : Pos} {e o : Expr} {es : List Expr} {ta : TE} {t : TA}
theorem run_fn {pins : List (Addr × Obj)} {σ : St} {H : Hp} {s : Shared} {Q : VK} {us : List Value} {vs : List V} (F : FnOk X.prog X.w X.K X.mg X.base CX k f fd ps sp) (hr : Room k X.A) (hb : Binds X.K fd ps ds) (hd : Vals dvs ds) (hx : Passes CX X E)
    (I : Inv X pins σ H s) (r : Vals vs us) (h : sp (vs ++ dvs) H Q E) : wpAny (model X.prog X.w) X.A (call (.ref f) us) (EP X pins σ Q) X.xe s := by
  have r2 : Vals (vs ++ dvs) (us ++ ds) := r.append hd
  have hl : (us ++ ds).length = ps.length := by rw [← r2.length]; exact F.len _ _ _ _ h
  refine wpAny_call (codeAny_mono (F.run X.A X.stack s H ⟨us, []⟩ (us ++ ds) (vs ++ dvs) Q E hr I.env0 (hb s us I.kIn hl) r2 h) fun r s' hq => ?_)
  cases r with
  | error e => exact hx pins σ H s e s' I hq
  | ok fl =>
    cases fl with
    | ret u => exact I.after hq
    | next => exact False.elim hq
    | brk => exact False.elim hq
    | cont => exact False.elim hq
theorem pe_call (F : FnOk X.prog X.w X.K X.mg X.base CX k f fd ps sp) (hr : Room k X.A) (hg : Gl X x) (hm : X.mg x = some (.ref f)) (hk : PySem.W.keepIn X.K (.ref f) = true) (hb : Binds X.K fd ps ds) (hd : Vals dvs ds) (hx : Passes CX X E)
    (ha : PA X (e :: es) t) (hdb : (x == ("__debug__" : Str)) = false := by decide) (he : starEach (e :: es) X.env = (false, eval e X.env) :: starEach es X.env := by rfl) (hpl : (backTo pos (starEach es X.env)).any (·.1) = false := by rfl) :
    PE X (.Call (.Name x p) (e :: es) [] pos) (tCall sp dvs E t) := by
  intro pins s σ H Q I h
  refine wpAny_Call_Name_kw (ld_glob I hg hm ?_ hdb)
  refine PySem.W.callWith_K (h₀ := X.base) I.ok.mod.kin hk (thn (ha pos pins s σ H _ I h) fun us s1 ⟨vs, H1, I1, r, q⟩ => ⟨I1.kIn, ?_⟩) he hpl
  exact run_fn F hr hb hd hx I1 r q
theorem pe_call0 (F : FnOk X.prog X.w X.K X.mg X.base CX k f fd ps sp) (hr : Room k X.A) (hg : Gl X x) (hm : X.mg x = some (.ref f)) (hk : PySem.W.keepIn X.K (.ref f) = true) (hb : Binds X.K fd ps ds) (hd : Vals dvs ds) (hx : Passes CX X E)
    (hdb : (x == ("__debug__" : Str)) = false := by decide) : PE X (.Call (.Name x p) [] [] pos) (tCall sp dvs E tNil) := by
  intro pins s σ H Q I h
  refine wpAny_Call_Name_kw (ld_glob I hg hm ?_ hdb)
  exact PySem.W.callWith_K0 I.kIn hk (run_fn (us := []) F hr hb hd hx I .nil h)
theorem pe_meth {pl : Sem Bool} (he : PE X o ta) (c : Cls X.K C) (hm : Meth X.K C m f) (F : FnOk X.prog X.w X.K X.mg X.base CX k f fd ps sp) (hr : Room k X.A) (hb : Binds X.K fd ps ds) (hd : Vals dvs ds) (hx : Passes CX X E) (ha : PA X (e :: es) t)
    (hst : starEach (e :: es) X.env = (false, eval e X.env) :: starEach es X.env := by rfl) (hpl : (backTo pos (starEach es X.env)).any (·.1) = false := by rfl)
    (ht : eval (.Call (.Attribute o m apos) (e :: es) [] pos) X.env = (do
      let ov ← eval o X.env
      standAt apos.atName
      let (f, first) ← holding [ov] (getMethod ov m pl)
      callWith pos f first (backTo pos (starEach (e :: es) X.env)) (backToKw pos (keywordEach [] X.env))) := by rfl) :
    PE X (.Call (.Attribute o m apos) (e :: es) [] pos) (tMeth C m sp dvs E ta t) := by
  intro pins s σ H Q I h
  refine PySem.W.methodCall_KW (pl := pl) (thn (he pins s σ H _ I h) fun u s1 ⟨x, H1, I1, rx, a, dx, fs, ex, ea, l, q⟩ => ?_) ht
  subst ex
  obtain rfl : u = Value.ref a := rx
  refine getmeth_ok I1 ea c hm l ?_
  refine PySem.W.callWith_K (first := [.ref a]) (h₀ := X.base) I.ok.mod.kin hm.kp (thn (ha pos pins s1 σ H1 _ I1 q) fun us s2 ⟨vs, H2, I2, r, q2⟩ => ⟨I2.kIn, ?_⟩) hst hpl
  exact run_fn (us := .ref a :: us) (vs := .ref a :: vs) F hr hb hd hx I2 (.cons rfl r) q2
theorem pe_meth0 {pl : Sem Bool} (he : PE X o ta) (c : Cls X.K C) (hm : Meth X.K C m f) (F : FnOk X.prog X.w X.K X.mg X.base CX k f fd ps sp) (hr : Room k X.A) (hb : Binds X.K fd ps ds) (hd : Vals dvs ds) (hx : Passes CX X E)
    (ht : eval (.Call (.Attribute o m apos) [] [] pos) X.env = (do
      let ov ← eval o X.env
      standAt apos.atName
      let (f, first) ← holding [ov] (getMethod ov m pl)
      callWith pos f first (backTo pos (starEach [] X.env)) (backToKw pos (keywordEach [] X.env))) := by rfl) :
    PE X (.Call (.Attribute o m apos) [] [] pos) (tMeth C m sp dvs E ta tNil) := by
  intro pins s σ H Q I h
  refine PySem.W.methodCall_KW (pl := pl) (thn (he pins s σ H _ I h) fun u s1 ⟨x, H1, I1, rx, a, dx, fs, ex, ea, l, q⟩ => ?_) ht
  subst ex
  obtain rfl : u = Value.ref a := rx
  refine getmeth_ok I1 ea c hm l ?_
  exact PySem.W.callWith_K0 (first := [.ref a]) I1.kIn hm.kp (run_fn (us := [.ref a]) (vs := [.ref a]) F hr hb hd hx I1 (.cons rfl .nil) q)
structure Mk (K : PySem.W.Frag) (C f : Addr) : Prop where
  makes : PySem.W.makesIn K C = true
  init : PySem.W.findIn K (.ref C) "__init__" = some (some (.ref f))
  fn : PySem.W.isFn K (.ref f) = true
  kp : PySem.W.keepIn K (.ref C) = true
theorem run_make {pins : List (Addr × Obj)} {σ : St} {H : Hp} {s : Shared} {Q : VK} {us : List Value} {vs : List V} (M : Mk X.K C f) (F : FnOk X.prog X.w X.K X.mg X.base CX k f fd ps sp) (hr : Room (k + 1) X.A) (hb : Binds X.K fd ps ds) (hd : Vals dvs ds)
    (hx : Passes CX X E) (I : Inv X pins σ H s) (r : Vals vs us)
    (h : ∀ x dx, H x = none → H dx = none → dx ≠ x → sp (.ref x :: (vs ++ dvs)) (upd (upd H dx (.own x)) x (.ins C dx [])) (fun v H2 => v = .non ∧ Q (.ref x) H2) E) :
    wpAny (model X.prog X.w) X.A (call (.ref C) us) (EP X pins σ Q) X.xe s := by
  have hq := h (s.heap.objs.size + 1) s.heap.objs.size (I.hok.fresh (Nat.le_succ _)) (I.hok.fresh (Nat.le_refl _)) (Nat.ne_of_lt (Nat.lt_succ_self _))
  have I2 := Inv.made (C := C) I
  have r2 : Vals (V.ref (s.heap.objs.size + 1) :: (vs ++ dvs)) (Value.ref (s.heap.objs.size + 1) :: (us ++ ds)) := .cons rfl (r.append hd)
  have hl : (Value.ref (s.heap.objs.size + 1) :: us ++ ds).length = ps.length := by
    have e := r2.length
    rw [F.len _ _ _ _ hq] at e
    exact e.symm
  refine wpAny_call (make_map (f := f) I.kIn M.makes M.init (beq_iff_eq.mp M.fn) (codeAny_mono (F.run _ X.stack _ _ ⟨Value.ref (s.heap.objs.size + 1) :: us, []⟩ (Value.ref (s.heap.objs.size + 1) :: (us ++ ds)) _ _ E (hr.make C us [])
    (I2.env0.make C us []) (hb _ (Value.ref (s.heap.objs.size + 1) :: us) I2.kIn hl) r2 hq) fun r s' hq' => ?_))
  cases r with
  | error e => exact hx pins σ _ _ e s' I2 hq'
  | ok fl =>
    cases fl with
    | ret u =>
      obtain ⟨v, H', I3, rv, ev, q3⟩ := I2.after hq'
      subst ev
      exact ⟨rv, ⟨V.ref (s.heap.objs.size + 1), H', I3, rfl, q3⟩⟩
    | next => exact False.elim hq'
    | brk => exact False.elim hq'
    | cont => exact False.elim hq'
theorem pe_make0 (M : Mk X.K C f) (F : FnOk X.prog X.w X.K X.mg X.base CX k f fd ps sp) (hr : Room (k + 1) X.A) (hg : Gl X x) (hm : X.mg x = some (.ref C)) (hb : Binds X.K fd ps ds) (hd : Vals dvs ds) (hx : Passes CX X E)
    (hdb : (x == ("__debug__" : Str)) = false := by decide) : PE X (.Call (.Name x p) [] [] pos) (tMake C sp dvs E tNil) := by
  intro pins s σ H Q I h
  refine wpAny_Call_Name_kw (ld_glob I hg hm ?_ hdb)
  exact PySem.W.callWith_K0 I.kIn M.kp (run_make (us := []) M F hr hb hd hx I .nil h)
end
section
variable {X : Cx} {CX : CXT} {k : Nat} {f C : Addr} {fd : FuncData} {ps ks : List Str} {sp : Sp} {E : XK} {x m : Str} {p pos apos kpos : Pos} {e o : Expr} {es : List Expr} {kws : List Keyword} {te ta : TE} {t tk : TA} {nm : Option Str}
variable {g : List Value → List Value → List Value} {gV : List V → List V → List V}
end
structure FnScope (N P : List Str) (sc : Scope) : Prop where
  kind : sc.kind = .function
  co : sc.isCoroutine = false
  gen : sc.isGenerator = false
  nd : N.Nodup
  pre : N.take P.length = P
  par : ∀ x ∈ P, sc.names.lookup x = some .local ∨ sc.names.lookup x = some .cell
  nofree : ∀ y ∈ sc.names, y.2 ≠ .free
theorem bindL_out {kindOf : Str → Option NameKind} {x : Str} : ∀ {binds : List (Str × Value)} {m : Str → Option Value}, (∀ v, (x, v) ∉ binds) → bindL kindOf binds m x = m x
  | [], _, _ => rfl
  | (n, v) :: r, m, h => by
    unfold bindL
    rw [bindL_out fun w hw => h w (List.mem_cons_of_mem _ hw)]
    split
    · have : x ≠ n := by rintro rfl; exact h v List.mem_cons_self
      simp [this]
    · rfl
theorem bindC_out {kindOf : Str → Option NameKind} {x : Str} : ∀ {binds : List (Str × Value)} {m : Str → Option Value}, (∀ v, (x, v) ∉ binds) → bindC kindOf binds m x = m x
  | [], _, _ => rfl
  | (n, v) :: r, m, h => by
    unfold bindC
    rw [bindC_out fun w hw => h w (List.mem_cons_of_mem _ hw)]
    split
    · rfl
    · have : x ≠ n := by rintro rfl; exact h v List.mem_cons_self
      simp [this]
theorem bindL_get {kindOf : Str → Option NameKind} {x : Str} {v : Value} : ∀ {P : List Str} {vs : List Value} {i : Nat} {m : Str → Option Value}, P.Nodup → P[i]? = some x → vs[i]? = some v → kindOf x = some .local →
    bindL kindOf (P.zip vs) m x = some v
  | [], _, _, _, _, h, _, _ => by simp at h
  | _ :: _, [], _, _, _, _, h, _ => by simp at h
  | p :: P, w :: vs, 0, m, nd, h1, h2, hk => by
    simp at h1 h2; subst h1; subst h2
    show bindL kindOf ((p, w) :: P.zip vs) m p = _
    unfold bindL
    rw [bindL_out fun v hv => (List.nodup_cons.mp nd).1 (List.of_mem_zip hv).1, if_pos hk]
    simp
  | p :: P, w :: vs, i + 1, m, nd, h1, h2, hk => by
    show bindL kindOf ((p, w) :: P.zip vs) m x = _
    unfold bindL
    exact bindL_get (i := i) (List.nodup_cons.mp nd).2 (by simpa using h1) (by simpa using h2) hk
theorem bindC_get {kindOf : Str → Option NameKind} {x : Str} {v : Value} : ∀ {P : List Str} {vs : List Value} {i : Nat} {m : Str → Option Value}, P.Nodup → P[i]? = some x → vs[i]? = some v → kindOf x ≠ some .local →
    bindC kindOf (P.zip vs) m x = some v
  | [], _, _, _, _, h, _, _ => by simp at h
  | _ :: _, [], _, _, _, _, h, _ => by simp at h
  | p :: P, w :: vs, 0, m, nd, h1, h2, hk => by
    simp at h1 h2; subst h1; subst h2
    show bindC kindOf ((p, w) :: P.zip vs) m p = _
    unfold bindC
    rw [bindC_out fun v hv => (List.nodup_cons.mp nd).1 (List.of_mem_zip hv).1, if_neg hk]
    simp
  | p :: P, w :: vs, i + 1, m, nd, h1, h2, hk => by
    show bindC kindOf ((p, w) :: P.zip vs) m x = _
    unfold bindC
    exact bindC_get (i := i) (List.nodup_cons.mp nd).2 (by simpa using h1) (by simpa using h2) hk
def start (N : List Str) (vs : List V) : St := vs.map some ++ List.replicate (N.length - vs.length) none
def cxOf (CX : CXT) (P : Program) (w : World) (K : PySem.W.Frag) (mg : Str → Option Value) (base : Heap) (N : List Str) (qual : Str) (scope : Scope) (f : Addr) (cd : Value) (A : Around) (outer : List Env) (s : Shared) (H : Hp) (E : XK) : Cx where
  prog := P
  w := w
  K := K
  mg := mg
  base := base
  A := A.deeper (envOfC qual scope s.heap.objs.size f cd)
  N := N
  s_0 := s
  H_0 := H
  env := envOfC qual scope s.heap.objs.size f cd
  outer := outer
  stack := envOfC qual scope s.heap.objs.size f cd :: outer
  ex := []
  calm := true
  fn := fun _ => true
  pn := []
  xe := fun e s' => wpAny (model P w) (A.deeper (envOfC qual scope s.heap.objs.size f cd)) (leaving (envOfC qual scope s.heap.objs.size f cd) e) (fun _ s'' => CX outer H s E e s'') (fun e' s'' => CX outer H s E e' s'') s'
theorem cell_has {sc : Scope} {n : Nat} {x : Str} (h : sc.names.lookup x = some .cell) : ∃ c, (cellsFrom n sc.names []).lookup x = some c := by
  have q := PySem.W.cellsFrom_some sc.names n [] (.inl h)
  exact Option.isSome_iff_exists.mp q
theorem inv_start {CX : CXT} {P : Program} {w : World} {K : PySem.W.Frag} {mg : Str → Option Value} {base : Heap} {N ps : List Str} {qual : Str} {scope : Scope} {f : Addr} {cd : Value} {A : Around} {outer : List Env} {s s1 : Shared} {H : Hp} {E : XK} {us : List Value} {vs : List V}
    (S : FnScope N ps scope) (hd : A.handled = none) (e0 : Env0 P w K mg base A outer s H) (hl : vs.length = ps.length) (r : Vals vs us)
    (x : InCallC s s.heap.objs.size (bindL (envOfC qual scope s.heap.objs.size f cd).kindOf (ps.zip us) fun _ => none) (cellsFrom (s.heap.objs.size + 1) scope.names []) (bindC (envOfC qual scope s.heap.objs.size f cd).kindOf (ps.zip us) fun _ => none) s1) :
    Inv (cxOf CX P w K mg base N qual scope f cd A outer s H E) [] (start N vs) H s1 := by
  have hpl : ps.length ≤ N.length := by have := congrArg List.length S.pre; rw [List.length_take] at this; omega
  obtain ⟨h1, tk, rfl, hk⟩ := x.done
  have noA : ∀ b : Addr, b ∉ (cxOf CX P w K mg base N qual scope f cd A outer s H E).ex := fun b z => absurd (show b ∈ ([] : List Addr) from z) (by simp)
  refine ⟨⟨e0.mod, S.kind, rfl, rfl, Nat.le_refl _, fun y z c h1 h2 => ?_, fun y hy => ?_, fun y c _ h => ?_, fun _ => hd, Around.frames_deeper e0.frames, .inr ⟨rfl, rfl⟩, fun b z => absurd z (noA b), e0.bs, e0.bsz, fun b _ _ => noA b, fun b z => absurd z (noA b), e0.funs, e0.frf⟩,
    rfl, e0.bare, Un.kept hk, ⟨_, x.toInCall.ns, fun i y v h1 h2 h3 => ?_⟩, fun y c h => ⟨_, x.cell y c h⟩, e0.hok.fresh (Nat.le_refl _), fun y c h => ?_, fun p hp => absurd (show p ∈ ([] : List (Addr × Obj)) from hp) (by simp), e0.hok.kept hk, ?_⟩
  · exact name_of_addr x.apart (PySem.mem_of_lookup h1) (PySem.mem_of_lookup h2)
  · have hy : scope.names.lookup y = some .cell ∨ scope.names.lookup y = some .free := hy
    rcases hy with hy | hy
    · exact cell_has hy
    · exact absurd rfl (S.nofree _ (PySem.mem_of_lookup hy))
  · exact Nat.le_of_lt (x.above y c (PySem.mem_of_lookup h))
  · have hi : i < vs.length := by
      unfold start at h2
      by_cases hi : i < vs.length
      · exact hi
      · rw [List.getElem?_append_right (by simpa using hi)] at h2
        rw [List.getElem?_replicate] at h2
        split at h2 <;> cases h2
    have ha : vs[i]? = some v := by
      unfold start at h2
      rw [List.getElem?_append_left (by simpa using hi), List.getElem?_map] at h2
      cases e : vs[i]? with
      | none => rw [e] at h2; cases h2
      | some a => rw [e] at h2; cases h2; rfl
    obtain ⟨u, hu, rv⟩ := r.get ha
    have hp : ps[i]? = some y := by
      rw [← S.pre, List.getElem?_take_of_lt (by omega)]; exact h1
    have ndP : ps.Nodup := by rw [← S.pre]; exact S.nd.sublist (List.take_sublist _ _)
    refine ⟨u, rv, ?_⟩
    rcases S.par y (List.mem_of_getElem? hp) with k | k
    · exact .inl ⟨k, bindL_get ndP hp hu k⟩
    · obtain ⟨c, e⟩ := cell_has (n := s.heap.objs.size + 1) k
      refine .inr ⟨.inl k, c, e, ?_⟩
      have q := x.cell y c e
      rw [bindC_get ndP hp hu (by show scope.names.lookup y ≠ _; rw [k]; decide)] at q
      exact q
  · exact e0.hok.fresh (Nat.le_of_lt (x.above y c (PySem.mem_of_lookup h)))
  · unfold start
    show _ = N.length
    rw [List.length_append, List.length_map, List.length_replicate]
    omega
theorem fn_of {CX : CXT} {P : Program} {w : World} {K : PySem.W.Frag} {mg : Str → Option Value} {base : Heap} {k : Nat} {f : Addr} {name qual : Str} {params : Arguments} {body : List Stmt} {scope : Scope} {dV kV doc pm cdv ct oc : Value} {an od : Option Addr}
    {osl : Array (Option Value)} {N ps : List Str} {sp : Sp} (lk : K.lookup f = some ⟨oc, od, .func (PySem.W.fnOf name qual params body scope dV kV doc pm an cdv ct), osl⟩) (hcd : PySem.W.codeIn K cdv qual = true) (S : FnScope N ps scope)
    (len : ∀ vs H Q E, sp vs H Q E → vs.length = ps.length)
    (hbody : ∀ (A : Around) (outer : List Env) (s : Shared) (H : Hp) (vs : List V) (Q : VK) (E : XK), Room k (A.deeper (envOfC qual scope s.heap.objs.size f cdv)) → sp vs H Q E →
      ∃ t, PSs (cxOf CX P w K mg base N qual scope f cdv A outer s H E) body t ∧ t { nx := fun _ H' => Q .non H', rt := Q } (start N vs) H) :
    FnOk P w K mg base CX (k + 1) f (PySem.W.fnOf name qual params body scope dV kV doc pm an cdv ct) ps sp := by
  refine ⟨len, fun A outer s H args us vs Q E hr e0 hb r hsp => ?_⟩
  have hl := len _ _ _ _ hsp
  have KX : K.In s.heap := e0.mod.kin.keeps fun b o e => (e0.bs b o e).1
  have lim : s.heap.NoLimit := e0.mod.nolimit.keeps fun b o e => (e0.bs b o e).1
  have hkind : ∀ y ∈ ps.zip us, scope.names.lookup y.1 = some .local ∨ (scope.names.lookup y.1 = some .cell ∧ ((cellsFrom (s.heap.objs.size + 1) scope.names []).lookup y.1).isSome = true) := fun ⟨n, v⟩ hy => by
    rcases S.par n (List.of_mem_zip hy).1 with q | q
    · exact .inl q
    · exact .inr ⟨q, PySem.W.cellsFrom_some _ _ _ (.inl q)⟩
  refine codeAny_call_function hr.depth (KX _ _ lk) rfl S.co S.gen rfl (PySem.W.codeRec_of KX hcd) (hb _ _ _ _ ?_)
  refine wpAny_newFunctionEnv_cells S.kind hkind fun env he s1 x => ?_
  subst he
  refine ⟨lim.keeps x.toInCall.keep, codeAny_func ?_⟩
  obtain ⟨t, ht, hq⟩ := hbody A outer s H vs Q E (hr.deeper _) hsp
  have I : Inv (cxOf CX P w K mg base N qual scope f cdv A outer s H E) [] (start N vs) H s1 := inv_start S hr.hd e0 hl r x
  refine wpAny_mono (ht [] s1 (start N vs) H _ I hq) (fun fl s' hs => ?_) fun e s' hs => hs
  have fin : ∀ {σ' : St} {H' : Hp} {v : V} {u : Value}, Inv (cxOf CX P w K mg base N qual scope f cdv A outer s H E) [] σ' H' s' → RelV v u → Q v H' → CE outer P w H s Q u s' :=
    fun {σ' H' v u} J rv q => ⟨v, H', J.os, J.bare, J.base, J.hok, rv, q⟩
  cases fl with
  | ret u =>
    obtain ⟨v, σ', H', J, rv, q⟩ := hs
    exact fin J rv q
  | next =>
    obtain ⟨σ', H', J, q⟩ := hs
    exact fin (v := V.non) (u := Value.none) J rfl q
  | brk =>
    obtain ⟨_, _, _, q⟩ := hs
    exact False.elim q
  | cont =>
    obtain ⟨_, _, _, q⟩ := hs
    exact False.elim q
end L2
namespace L2
open PySem PySem.Spec PyProof.Rows
section
variable {X : Cx} {x : Str} {p pos : Pos} {e : Expr} {es : List Expr} {t : TA} {id T : String} {r : List V → Hp → VK → Prop}
def tCB (r : List V → Hp → VK → Prop) (t : TA) : TE := fun σ H Q => t σ H fun vs H1 => r vs H1 Q
theorem pe_callB (hc : CallR X (.builtin id) r) (hg : Gl X x) (hm : X.mg x = none) (hv : bootBuiltins x = some (.builtin id)) (ha : PA X (e :: es) t) (hn : x ≠ "__name__" := by decide) (hdb : (x == ("__debug__" : Str)) = false := by decide)
    (he : starEach (e :: es) X.env = (false, eval e X.env) :: starEach es X.env := by rfl) (hpl : (backTo pos (starEach es X.env)).any (·.1) = false := by rfl) : PE X (.Call (.Name x p) (e :: es) [] pos) (tCB r t) := by
  intro pins s σ H Q I h
  refine wpAny_Call_Name_kw (ld_blt I hg hm hv ?_ hn hdb)
  exact PyProof.Rows.callWith_builtin1 (thn (ha pos pins s σ H _ I h) fun us s1 ⟨vs, H1, I1, r1, q1⟩ => hc pins s1 σ H1 vs us Q I1 r1 q1) he hpl
theorem pe_callTy (hc : CallR X (.type T) r) (hg : Gl X x) (hm : X.mg x = none) (hv : bootBuiltins x = some (.type T)) (ha : PA X (e :: es) t) (hn : x ≠ "__name__" := by decide) (hdb : (x == ("__debug__" : Str)) = false := by decide)
    (he : starEach (e :: es) X.env = (false, eval e X.env) :: starEach es X.env := by rfl) (hpl : (backTo pos (starEach es X.env)).any (·.1) = false := by rfl) : PE X (.Call (.Name x p) (e :: es) [] pos) (tCB r t) := by
  intro pins s σ H Q I h
  refine wpAny_Call_Name_kw (ld_blt I hg hm hv ?_ hn hdb)
  exact PyProof.Rows.callWith_type1 (thn (ha pos pins s σ H _ I h) fun us s1 ⟨vs, H1, I1, r1, q1⟩ => hc pins s1 σ H1 vs us Q I1 r1 q1) he hpl
end
end L2
namespace HT
open PySem PyProof.Rows
section
open PySem.SeqAt
open PySem.AutoSeq1 (wpAny_loadPart')
open PySem.MeetsSeq PySem.MeetsSeq2 PySem.MeetsSeq3
end
section
variable {prog : Program} {w : World} {A : Around} {E : Value → Shared → Prop} {s : Shared}
def sIx (n d : Nat) : Option Int → Nat
  | none => d
  | some v => if v < 0 then (v + (n : Int)).toNat else min v.toNat n
theorem sIx_nat (n d k : Nat) : sIx n d (some (k : Int)) = min k n := by
  show (if (k : Int) < 0 then ((k : Int) + (n : Int)).toNat else min (k : Int).toNat n) = min k n
  rw [if_neg (by omega), Int.toNat_natCast]
end
end HT
namespace L2
open PySem PySem.Spec PyProof.Rows
abbrev TO := St → Hp → (Option Int → Hp → Prop) → Prop
def PO (X : Cx) (e : Option Expr) (t : TO) : Prop :=
  ∀ (pins : List (Addr × Obj)) (s : Shared) (σ : St) (H : Hp) (Q : Option Int → Hp → Prop), Inv X pins σ H s → t σ H Q →
    wpAny (model X.prog X.w) X.A (evalPart e X.env) (fun u s' => ∃ o H', Inv X pins σ H' s' ∧ IsPart u o ∧ Q o H') X.xe s
def tNoPart : TO := fun _ H Q => Q none H
def tPart (t : TE) : TO := fun σ H Q => t σ H fun x H1 => ∃ i, x = .int i ∧ Q (some i) H1
section
variable {X : Cx} {e : Expr} {te : TE} {lo hi : Option Expr} {tl th : TO} {pos p2 : Pos}
theorem po_some (h : PE X e te) : PO X (some e) (tPart te) := by
  intro pins s σ H Q I hw
  rw [evalPart_some]
  refine thn (h pins s σ H _ I hw) fun u s1 ⟨x, H1, I1, r1, q1⟩ => ?_
  obtain ⟨i, rfl, q⟩ := q1
  obtain ⟨t, rfl⟩ := r1
  exact ⟨some i, H1, I1, .int i t, q⟩
def SlR (X : Cx) (r : V → Option Int → Option Int → Hp → VK → Prop) : Prop :=
  ∀ (pins : List (Addr × Obj)) (s : Shared) (σ : St) (H : Hp) (x : V) (v vl vu : Value) (lo hi : Option Int) (sl : Addr) (Q : VK), Inv X pins σ H s → RelV x v → s.heap.IsSliceOf sl vl vu .none → IsPart vl lo → IsPart vu hi → r x lo hi H Q →
    ∃ T id, typeLookup (.type T) "__getitem__" = pure (some (.builtin id)) ∧ s.TypeIs v T ∧ wpAny (model X.prog X.w) X.A (getItem v (.ref sl)) (EP X pins σ Q) X.xe s
def tSl (r : V → Option Int → Option Int → Hp → VK → Prop) (te : TE) (tl th : TO) : TE := fun σ H Q => te σ H fun x H1 => tl σ H1 fun l H2 => th σ H2 fun u H3 => r x l u H3 Q
theorem pe_slice {r : V → Option Int → Option Int → Hp → VK → Prop} (hr : SlR X r) (he : PE X e te) (hl : PO X lo tl) (hu : PO X hi th) : PE X (.Subscript e (.Slice lo hi none p2) pos) (tSl r te tl th) := by
  intro pins s σ H Q I h
  refine Subscript_ (thn (he pins s σ H _ I h) fun v s1 ⟨x, H1, I1, r1, q1⟩ => ?_)
  refine wpAny_Slice (thn (hl pins s1 σ H1 _ I1 q1) fun vl s2 ⟨l, H2, I2, pl, q2⟩ => thn (hu pins s2 σ H2 _ I2 q2) fun vu s3 ⟨u, H3, I3, pu, q3⟩ => ?_)
  rw [evalPart_none]
  refine wpAny_pure ?_
  have I4 : Inv X pins σ H3 { s3 with heap := s3.heap.push { cls := .type "slice", data := .fields #[vl, vu, .none] } } := I3.kept (t' := s3.toks) fun b ob q => Heap.get?_push_of_some _ q
  obtain ⟨T, id, hT, ht, hg⟩ := hr pins { s3 with heap := s3.heap.push { cls := .type "slice", data := .fields #[vl, vu, .none] } } σ H3 x v vl vu l u s3.heap.objs.size Q I4 r1 (Heap.IsSliceOf.new ..) pl pu q3
  show wpAny (model X.prog X.w) X.A (subscriptTail e (.Slice lo hi none p2) v (.ref s3.heap.objs.size)) (EP X pins σ Q) X.xe { s3 with heap := s3.heap.push { cls := .type "slice", data := .fields #[vl, vu, .none] } }
  exact tail_any (ops := [.ref s3.heap.objs.size, v]) ht hT hg (by with_unfolding_all rfl)
def cutV (xs : List V) (lo hi : Option Int) : List V := (xs.drop (HT.sIx xs.length 0 lo)).take (HT.sIx xs.length xs.length hi - HT.sIx xs.length 0 lo)
theorem cutV_length (xs : List V) (lo hi : Option Int) : (cutV xs lo hi).length ≤ xs.length := by
  unfold cutV
  rw [List.length_take, List.length_drop]
  omega
end
end L2
namespace L2
open PySem PySem.Spec PyProof.Rows
def ixN (n : Nat) (i : Int) : Option Nat := if 0 ≤ i then (if i < n then some i.toNat else none) else if -(n : Int) ≤ i then some (i + n).toNat else none
def atI {α : Type} (xs : List α) (i : Int) : Option α := (ixN xs.length i).bind fun j => xs[j]?
theorem ixN_seq {n : Nat} {i : Int} {j : Nat} (h : ixN n i = some j) : seqIndex? i n = some j ∧ j < n ∧ -(n : Int) ≤ i ∧ i < n := by
  unfold ixN at h
  by_cases h0 : 0 ≤ i
  · rw [if_pos h0] at h
    by_cases h1 : i < n
    · rw [if_pos h1] at h
      have e : i.toNat = j := Option.some.inj h
      exact ⟨by rw [seqIndex_of h0 h1, e], by omega, by omega, h1⟩
    · rw [if_neg h1] at h; cases h
  · rw [if_neg h0] at h
    by_cases h1 : -(n : Int) ≤ i
    · rw [if_pos h1] at h
      have e : (i + n).toNat = j := Option.some.inj h
      exact ⟨by rw [seqIndex_neg (by omega) h1, e], by omega, h1, by omega⟩
    · rw [if_neg h1] at h; cases h
theorem atI_get {α : Type} {xs : List α} {i : Int} {v : α} (h : atI xs i = some v) : ∃ j, seqIndex? i xs.length = some j ∧ xs[j]? = some v ∧ j < xs.length ∧ -(xs.length : Int) ≤ i ∧ i < xs.length := by
  unfold atI at h
  cases e : ixN xs.length i with
  | none => rw [e] at h; cases h
  | some j =>
    rw [e] at h
    obtain ⟨h1, h2, h3, h4⟩ := ixN_seq e
    exact ⟨j, h1, h, h2, h3, h4⟩
theorem atI_nat {α : Type} {xs : List α} {j : Nat} {v : α} (h : xs[j]? = some v) : atI xs (j : Int) = some v := by
  have hj : j < xs.length := (List.getElem?_eq_some_iff.mp h).1
  have e : ixN xs.length (j : Int) = some j := by
    unfold ixN
    rw [if_pos (by omega), if_pos (by omega)]; simp
  unfold atI; rw [e]; exact h
def PlainIx (b : Expr) : Prop := ∀ o i, subscripted b false o i = operate [o, i] (getItem o i)
def IxR (X : Cx) (r : R2) : Prop :=
  ∀ (value slice : Expr) (pins : List (Addr × Obj)) (s : Shared) (σ : St) (H : Hp) (x y : V) (v u : Value) (Q : VK), Inv X pins σ H s → RelV x v → RelV y u → r x y H Q →
    subscripted slice false v u = operate [v, u] (getItem v u) → wpAny (model X.prog X.w) X.A (subscriptTail value slice v u) (EP X pins σ Q) X.xe s
def MtR (X : Cx) (id : String) (r : V → List V → Hp → VK → Prop) : Prop :=
  ∀ (pins : List (Addr × Obj)) (s : Shared) (σ : St) (H : Hp) (x : V) (xs : List V) (v : Value) (us : List Value) (Q : VK), Inv X pins σ H s → RelV x v → Vals xs us → r x xs H Q →
    wpAny (model X.prog X.w) X.A (call (.builtin id) (v :: us)) (EP X pins σ Q) X.xe s
section
variable {X : Cx} {a b : Expr} {ta tb : TE} {pos : Pos}
theorem pe_ix {r : R2} (hr : IxR X r) (ha : PE X a ta) (hb : PE X b tb) (hs : PlainIx b) : PE X (.Subscript a b pos) (tOp r ta tb) := by
  intro pins s σ H Q I h
  exact Subscript_ (binT ha hb I h fun v u s2 x y H2 I2 rx ry q => hr a b pins s2 σ H2 x y v u Q I2 rx ry q (hs _ _))
def rIxL (K : PySem.W.Frag) : R2 := fun x y H Q => ∃ p xs i v, x = .ref p ∧ y = .int i ∧ SqL K H p xs ∧ atI xs i = some v ∧ Q v H
def rIxT (K : PySem.W.Frag) : R2 := fun x y H Q => ∃ p xs i v, x = .ref p ∧ y = .int i ∧ SqT K H p xs ∧ atI xs i = some v ∧ Q v H
theorem ix_list : IxR X (rIxL X.K) := by
  intro value slice pins s σ H x y v u Q I rx ry h hs
  obtain ⟨p, xs, i, z, rfl, rfl, hq, he, q⟩ := h
  cases rx
  obtain ⟨t, rfl⟩ := ry
  obtain ⟨its, r, pl, hz⟩ := I.list hq
  obtain ⟨j, h1, h2, h3, h4, h5⟩ := atI_get he
  obtain ⟨w, ew, rw'⟩ := r.get h2
  have hl := r.length
  have hn := line63
  have fin : EP X pins σ Q w s := ⟨z, H, I, rw', q⟩
  by_cases h0 : 0 ≤ i
  · have hj : i.toNat = j := by
      rw [seqIndex_of h0 h5] at h1
      exact Option.some.inj h1
    exact item_listR pl.isList h0 (by omega) (by rw [hj]; simpa using ew) fin hs
  · have hj : (i + (its.toArray.size : Int)).toNat = j := by
      rw [seqIndex_neg (by omega) h4] at h1
      rw [List.size_toArray, ← hl]
      exact Option.some.inj h1
    exact subscriptTail_builtinR (x := w) pl.isList.typeIs slot_list_getitem.lookup
      (wpAny_getItem_list_neg (Q := fun r s' => r = w ∧ EP X pins σ Q r s') pl.isList (by omega) (by rw [List.size_toArray] <;> omega) (by omega) (by rw [hj]; simpa using ew) ⟨rfl, fin⟩) hs
theorem ix_tup : IxR X (rIxT X.K) := by
  intro value slice pins s σ H x y v u Q I rx ry h hs
  obtain ⟨p, xs, i, z, rfl, rfl, hq, he, q⟩ := h
  cases rx
  obtain ⟨t, rfl⟩ := ry
  obtain ⟨its, r, pl, hz⟩ := I.tuple hq
  obtain ⟨j, h1, h2, h3, h4, h5⟩ := atI_get he
  obtain ⟨w, ew, rw'⟩ := r.get h2
  have hl := r.length
  have hn := line63
  have fin : EP X pins σ Q w s := ⟨z, H, I, rw', q⟩
  exact subscriptTail_builtinR (x := w) pl.typeIs slot_tuple_getitem.lookup
    (getItem_tuple (j := j) (Q := fun r s' => r = w ∧ EP X pins σ Q r s') pl (by omega) (by omega) (by rw [List.size_toArray, ← hl]; exact h1) (by simpa using ew) ⟨rfl, fin⟩) hs
theorem mapSeq_set (its : List Value) (n j : Nat) (u : Value) : Obj.mapSeq (·.setIfInBounds j u) { cls := .type "list", data := .seq its.toArray n } = { cls := .type "list", data := .seq (its.set j u).toArray n } := by
  simp [Obj.mapSeq]
theorem Inv.lst {pins : List (Addr × Obj)} {σ : St} {H : Hp} {s : Shared} {p : Addr} {xs : List V} (I : Inv X pins σ H s) (h : H p = some (.lst xs)) :
    ∃ (its : List Value) (n : Nat), Vals xs its ∧ s.heap.get? p = some { cls := .type "list", data := .seq its.toArray n } ∧ xs.length ≤ sizeLine := by
  obtain ⟨z, its, n, r, e⟩ := I.hok p _ h
  exact ⟨its, n, r, e, z⟩
theorem Inv.lstUpd {pins : List (Addr × Obj)} {σ : St} {H : Hp} {s : Shared} {p : Addr} {xs ys : List V} {its its' : List Value} {n n' : Nat} {f : Obj → Obj} (I : Inv X pins σ H s) (h : H p = some (.lst xs))
    (ho : s.heap.get? p = some { cls := .type "list", data := .seq its.toArray n }) (hf : f { cls := .type "list", data := .seq its.toArray n } = { cls := .type "list", data := .seq its'.toArray n' }) (r : Vals ys its') (hz : ys.length ≤ sizeLine) (t : Nat) :
    Inv X pins σ (upd H p (.lst ys)) { s with heap := s.heap.update p f, toks := t } := by
  have e : (s.heap.update p f).get? p = some { cls := .type "list", data := .seq its'.toArray n' } := by
    rw [Heap.get?_update_self f ho (by rw [hf] <;> rfl), hf]
  refine I.write (x := p) (e := p) (by rw [h]; trivial) (.inl rfl) (fun b u hb q => (Heap.get?_update_other _ _ (Ne.symm hb)).trans q) ⟨_, e⟩ ?_
  exact ⟨hz, its', n', r, e⟩
def rSetL : V → V → V → Hp → (Hp → Prop) → Prop := fun o i v H Q => ∃ p xs k j, o = .ref p ∧ i = .int k ∧ H p = some (.lst xs) ∧ ixN xs.length k = some j ∧ Q (upd H p (.lst (xs.set j v)))
theorem set_list : PSet X rSetL := by
  intro pins s σ H o i v ov iv u Q I ro ri rv h
  obtain ⟨p, xs, k, j, rfl, rfl, hp, hj, q⟩ := h
  cases ro
  obtain ⟨t, rfl⟩ := ri
  obtain ⟨its, n, r, ho, hz⟩ := I.lst hp
  obtain ⟨h1, h2, h3, h4⟩ := ixN_seq hj
  have hl := r.length
  have hn := line63
  have I' : Inv X pins σ (upd H p (.lst (xs.set j v))) { s with heap := s.heap.update p (Obj.mapSeq (·.setIfInBounds j u)) } :=
    I.lstUpd hp ho (mapSeq_set its n j u) (r.set rv j) (by rw [List.length_set]; exact hz) s.toks
  by_cases h0 : 0 ≤ k
  · have hk : k.toNat = j := by
      rw [seqIndex_of h0 h4] at h1
      exact Option.some.inj h1
    exact PySem.W.ki_setAt ho h0 (by omega) (by rw [List.size_toArray, ← hl]; exact h4) (by rw [hk]; exact ⟨_, I', q⟩)
  · have hk : (k + (its.toArray.size : Int)).toNat = j := by
      rw [seqIndex_neg (by omega) h3] at h1
      rw [List.size_toArray, ← hl]
      exact Option.some.inj h1
    exact PySem.W.ki_setBack ho (by omega) (by rw [List.size_toArray, ← hl]; exact h3) (by omega) (by rw [hk]; exact ⟨_, I', q⟩)
theorem slice_bounds (lo hi : Option Int) (n : Nat) : (sliceBounds lo hi none n).1 = ((HT.sIx n 0 lo : Nat) : Int) ∧ (sliceBounds lo hi none n).2.1 = ((HT.sIx n n hi : Nat) : Int) ∧ (sliceBounds lo hi none n).2.2 = 1 := by
  refine ⟨?_, ?_, rfl⟩
  · cases lo with
    | none => simp [sliceBounds, HT.sIx]
    | some i =>
      simp only [sliceBounds, HT.sIx, Option.getD_none, show (1 : Int) > 0 by decide, if_true]
      by_cases h : i < 0
      · simp only [h, if_true] <;> omega
      · simp only [h, if_false] <;> omega
  · cases hi with
    | none => simp [sliceBounds, HT.sIx]
    | some i =>
      simp only [sliceBounds, HT.sIx, Option.getD_none, show (1 : Int) > 0 by decide, if_true]
      by_cases h : i < 0
      · simp only [h, if_true] <;> omega
      · simp only [h, if_false] <;> omega
theorem slicePick_cut (its : List Value) (lo hi : Option Int) : slicePick its.toArray lo hi none = ((its.drop (HT.sIx its.length 0 lo)).take (HT.sIx its.length its.length hi - HT.sIx its.length 0 lo)).toArray := by
  obtain ⟨h1, h2, h3⟩ := slice_bounds lo hi its.toArray.size
  unfold slicePick
  rw [h1, h2, h3]
  simp only [sliceRange_one, pick_run, List.size_toArray] <;> rfl
def rSlL (K : PySem.W.Frag) : V → Option Int → Option Int → Hp → VK → Prop := fun x lo hi H Q => ∃ a xs, x = .ref a ∧ SqL K H a xs ∧ ∀ p, H p = none → Q (.ref p) (upd H p (.lst (cutV xs lo hi)))
theorem sl_list : SlR X (rSlL X.K) := by
  intro pins s σ H x v vl vu lo hi sl Q I rx hs pl pu h
  obtain ⟨a, xs, rfl, hx, q⟩ := h
  cases rx
  obtain ⟨its, r, ht, hz⟩ := I.list hx
  have hlen := r.length
  refine ⟨"list", _, slot_list_getitem.lookup, ht.isList.typeIs, ?_⟩
  refine wpAny_getItem_list_slice ht.isList hs pl pu .none (by simp) ?_ (by rw [List.size_toArray] <;> omega)
  rw [slicePick_cut, ← hlen]
  refine ⟨.ref s.heap.objs.size, _, I.laid (t' := s.toks) (o := .lst (cutV xs lo hi)) (fun b ob q => Heap.get?_push_of_some _ q) (Nat.le_refl _) ?_, rfl, q _ (I.hok.fresh (Nat.le_refl _))⟩
  exact ⟨Nat.le_trans (cutV_length xs lo hi) hz, _, 0, (r.drop (HT.sIx xs.length 0 lo)).take (HT.sIx xs.length xs.length hi - HT.sIx xs.length 0 lo), Heap.get?_push_size _ rfl⟩
def flatV : V → Bool
  | .non => true
  | .bl _ => true
  | .int _ => true
  | .str _ => true
  | _ => false
def eqV : V → V → Bool
  | .non, .non => true
  | .bl a, .bl b => a == b
  | .bl a, .int b => (if a then 1 else 0) == b
  | .int a, .bl b => a == (if b then 1 else 0)
  | .int a, .int b => a == b
  | .str a, .str b => a == b
  | _, _ => false
theorem eqAt_V {A : Around} {s : Shared} {y x : V} {u v : Value} (ry : RelV y u) (rx : RelV x v) (fy : flatV y = true) (fx : flatV x = true) : SeqAt.EqAt A s u v (eqV y x) := by
  cases y with
  | non =>
    cases ry
    cases x with
    | non => cases rx; exact SeqAt.EqAt.same _
    | bl b => cases rx; exact SeqAt.EqAt.none_bool b
    | int b => obtain ⟨t, rfl⟩ := rx; exact SeqAt.EqAt.none_int b t
    | str b => obtain ⟨t, rfl⟩ := rx; exact SeqAt.EqAt.none_str b t
    | _ => exact absurd (show false = true from fx) Bool.false_ne_true
  | bl a =>
    cases ry
    cases x with
    | non => cases rx; exact SeqAt.EqAt.bool_none a
    | bl b => cases rx; exact SeqAt.EqAt.bool_bool a b
    | int b => obtain ⟨t, rfl⟩ := rx; exact SeqAt.EqAt.bool_int a b t
    | str b => obtain ⟨t, rfl⟩ := rx; exact SeqAt.EqAt.bool_str a b t
    | _ => exact absurd (show false = true from fx) Bool.false_ne_true
  | int a =>
    obtain ⟨t', rfl⟩ := ry
    cases x with
    | non => cases rx; exact SeqAt.EqAt.int_none a t'
    | bl b => cases rx; exact SeqAt.EqAt.int_bool a t' b
    | int b => obtain ⟨t, rfl⟩ := rx; exact SeqAt.EqAt.int_int a t' b t
    | str b => obtain ⟨t, rfl⟩ := rx; exact SeqAt.EqAt.int_str a t' b t
    | _ => exact absurd (show false = true from fx) Bool.false_ne_true
  | str a =>
    obtain ⟨t', rfl⟩ := ry
    cases x with
    | non => cases rx; exact SeqAt.EqAt.str_none a t'
    | bl b => cases rx; exact SeqAt.EqAt.str_bool a t' b
    | int b => obtain ⟨t, rfl⟩ := rx; exact SeqAt.EqAt.str_int a t' b t
    | str b => obtain ⟨t, rfl⟩ := rx; exact SeqAt.EqAt.str_str a t' b t
    | _ => exact absurd (show false = true from fx) Bool.false_ne_true
  | _ => exact absurd (show false = true from fy) Bool.false_ne_true
def eqU (x : V) (u : Value) : Bool := match u with
  | .none => eqV .non x
  | .bool b => eqV (.bl b) x
  | .int i _ => eqV (.int i) x
  | .str z _ => eqV (.str z) x
  | _ => false
theorem eqU_of {x y : V} {u : Value} (r : RelV y u) (f : flatV y = true) : eqU x u = eqV y x := by
  cases y with
  | non => cases r; rfl
  | bl b => cases r; rfl
  | int i => obtain ⟨t, rfl⟩ := r; rfl
  | str z => obtain ⟨t, rfl⟩ := r; rfl
  | _ => exact absurd (show false = true from f) Bool.false_ne_true
theorem any_eqU {x : V} : ∀ {xs : List V} {us : List Value}, Vals xs us → xs.all flatV = true → us.any (eqU x) = xs.any fun y => eqV y x
  | _, _, .nil, _ => rfl
  | y :: xs, u :: us, .cons r t, f => by
    rw [List.all_cons, Bool.and_eq_true] at f
    rw [List.any_cons, List.any_cons, eqU_of r f.1, any_eqU t f.2]
theorem mem_eqAt {A : Around} {s : Shared} {x : V} {v : Value} (rx : RelV x v) (fx : flatV x = true) : ∀ {xs : List V} {us : List Value}, Vals xs us → xs.all flatV = true → ∀ u ∈ us, SeqAt.EqAt A s u v (eqU x u)
  | _, _, .nil, _ => fun u hu => by cases hu
  | y :: xs, u :: us, .cons r t, f => fun u' hu => by
    rw [List.all_cons, Bool.and_eq_true] at f
    rcases List.mem_cons.mp hu with rfl | hu
    · rw [eqU_of r f.1]; exact eqAt_V r rx f.1 fx
    · exact mem_eqAt rx fx t f.2 u' hu
def inV (x : V) (xs : List V) : Bool := xs.any fun y => eqV y x
def rIn (K : PySem.W.Frag) (neg : Bool) : R2 := fun x y H Q => ∃ p xs, y = .ref p ∧ (SqL K H p xs ∨ SqT K H p xs) ∧ flatV x = true ∧ xs.all flatV = true ∧ Q (.bl (if neg then !inV x xs else inV x xs)) H
theorem op_in_seq : OpR X (compareOp .In) (rIn X.K false) := by
  intro pins s σ H x y v u Q I rx ry h
  obtain ⟨p, xs, rfl, hq, fx, fs, q⟩ := h
  cases ry
  rcases hq with hq | hq
  · obtain ⟨its, r, pl, hz⟩ := I.list hq
    refine SeqAt.in_listAt (eqU x) pl.isList (fun w hw => mem_eqAt rx fx r fs w (by simpa using hw)) ⟨.bl _, H, I, rfl, ?_⟩
    rw [show its.toArray.any (eqU x) = its.any (eqU x) by simp, any_eqU r fs]
    exact q
  · obtain ⟨its, r, pl, hz⟩ := I.tuple hq
    refine SeqAt.in_tupleAt (eqU x) pl (fun w hw => mem_eqAt rx fx r fs w (by simpa using hw)) ⟨.bl _, H, I, rfl, ?_⟩
    rw [show its.toArray.any (eqU x) = its.any (eqU x) by simp, any_eqU r fs]
    exact q
theorem call_len_seq : CallR X (.builtin "len") (fun xs H Q => ∃ p ys, xs = [.ref p] ∧ (SqL X.K H p ys ∨ SqT X.K H p ys) ∧ Q (.int ys.length) H) := by
  intro pins s σ H xs us Q I r h
  obtain ⟨p, ys, rfl, hq, q⟩ := h
  obtain ⟨u, rfl, rx⟩ := vals1 r
  cases rx
  have hn := line63
  rcases hq with hq | hq
  · obtain ⟨its, r', pl, hz⟩ := I.list hq
    have hlen := r'.length
    exact Calls.call_len_list pl.isList (by simp only [List.size_toArray] <;> omega) ⟨.int ys.length, H, I.tok _, ⟨s.toks + 1, by rw [List.size_toArray, hlen]⟩, q⟩
  · obtain ⟨its, r', pl, hz⟩ := I.tuple hq
    have hlen := r'.length
    exact len_tuple pl (by simp only [List.size_toArray] <;> omega) ⟨.int ys.length, H, I.tok _, ⟨s.toks + 1, by rw [List.size_toArray, hlen]⟩, q⟩
theorem call_list_of : CallR X (.type "list") (fun xs H Q => ∃ p ys, xs = [.ref p] ∧ (SqL X.K H p ys ∨ SqT X.K H p ys) ∧ ∀ l, H l = none → Q (.ref l) (upd H l (.lst ys))) := by
  intro pins s σ H xs us Q I r h
  obtain ⟨p, ys, rfl, hq, q⟩ := h
  obtain ⟨u, rfl, rx⟩ := vals1 r
  cases rx
  have fin : ∀ (its : List Value), Vals ys its → ys.length ≤ sizeLine → ∀ (h' : Heap) (c' : Nat), (∀ b o', s.heap.get? b = some o' → h'.get? b = some o') →
      h'.get? s.heap.objs.size = some { cls := .type "list", dict := none, data := .seq its.toArray c', slots := #[] } → EP X pins σ Q (.ref s.heap.objs.size) { s with heap := h' } := fun its r' hz h' c' kp e =>
    ⟨.ref s.heap.objs.size, _, I.laid (t' := s.toks) kp (Nat.le_refl _) (show ObjOk X.prog X.w _ h' _ (.lst ys) from ⟨hz, its, c', r', e⟩), rfl, q _ (I.hok.fresh (Nat.le_refl _))⟩
  rcases hq with hq | hq
  · obtain ⟨its, r', pl, hz⟩ := I.list hq
    have hlen := r'.length
    obtain ⟨o, ho, hc, n, hd⟩ := pl.isList
    exact call_list_seq p (.inl rfl) ho hc hd (fun h' c' kp e => fin its r' hz h' c' kp e) (by simp only [List.size_toArray] <;> omega)
  · obtain ⟨its, r', pl, hz⟩ := I.tuple hq
    have hlen := r'.length
    obtain ⟨o, ho, hc, n, hd⟩ := pl
    exact call_list_seq p (.inr rfl) ho hc hd (fun h' c' kp e => fin its r' hz h' c' kp e) (by simp only [List.size_toArray] <;> omega)
def tyV (K : PySem.W.Frag) (T : String) (x : V) (H : Hp) : Prop := match x with
  | .str _ => T = "str"
  | .int _ => T = "int"
  | .ref p => (T = "list" ∧ ∃ xs, SqL K H p xs) ∨ (T = "tuple" ∧ ∃ o, K.lookup p = some o ∧ o.cls = .type "tuple" ∧ o.dict = none) ∨
      (T = "dict" ∧ ((∃ kvs, H p = some (.dK kvs)) ∨ ∃ kvs, H p = some (.dT kvs))) ∨ (T = "set" ∧ ∃ S n, H p = some (.set S n))
  | _ => False
theorem tyV_is {pins : List (Addr × Obj)} {σ : St} {H : Hp} {s : Shared} {T : String} {x : V} {v : Value} (I : Inv X pins σ H s) (r : RelV x v) (ty : tyV X.K T x H) :
    s.TypeIs v T ∧ ∀ a, v = .ref a → ∃ ob, s.heap.get? a = some ob ∧ ob.dict = none := by
  cases x with
  | str z =>
    obtain ⟨t, rfl⟩ := r
    cases (show T = "str" from ty)
    exact ⟨typeIs_str s z t, fun _ e => nomatch e⟩
  | int i =>
    obtain ⟨t, rfl⟩ := r
    cases (show T = "int" from ty)
    exact ⟨typeIs_int s i t, fun _ e => nomatch e⟩
  | ref p =>
    cases r
    rcases ty with ⟨rfl, xs, hq⟩ | ⟨rfl, o, hk, hc, hd⟩ | ⟨rfl, hk⟩ | ⟨rfl, S, n, hk⟩
    · obtain ⟨its, _, pl, _⟩ := I.list hq
      refine ⟨pl.isList.typeIs, fun a e => ?_⟩
      cases e
      obtain ⟨o, n, e, c, hd, _⟩ := pl
      exact ⟨o, e, hd⟩
    · refine ⟨⟨o, I.kIn p o hk, hc⟩, fun a e => ?_⟩
      cases e
      exact ⟨o, I.kIn _ o hk, hd⟩
    · have z : ∃ o, s.heap.get? p = some o ∧ o.ExactDict := by
        rcases hk with ⟨kvs, hk⟩ | ⟨kvs, hk⟩
        · obtain ⟨_, _, _, _, o, _, _, e, ex, _⟩ := I.hok p _ hk
          exact ⟨o, e, ex⟩
        · obtain ⟨_, _, _, _, o, _, _, e, ex, _⟩ := I.hok p _ hk
          exact ⟨o, e, ex⟩
      obtain ⟨o, e, ex⟩ := z
      refine ⟨⟨o, e, ex.1⟩, fun a e2 => ?_⟩
      cases e2
      exact ⟨o, e, ex.2.1⟩
    · obtain ⟨o, _, _, _, e, ex, _⟩ := I.hok p _ hk
      refine ⟨⟨o, e, ex.1⟩, fun a e2 => ?_⟩
      cases e2
      exact ⟨o, e, ex.2.1⟩
  | _ => exact False.elim ty
def tBM0 (K : PySem.W.Frag) (T : String) (r : V → List V → Hp → VK → Prop) (to : TE) : TE := fun σ H Q => to σ H fun x H1 => tyV K T x H1 ∧ r x [] H1 Q
def tBM (K : PySem.W.Frag) (T : String) (r : V → List V → Hp → VK → Prop) (to : TE) (t : TA) : TE := fun σ H Q => to σ H fun x H1 => tyV K T x H1 ∧ t σ H1 fun xs H2 => r x xs H2 Q
variable {o e : Expr} {es : List Expr} {to : TE} {t : TA} {name : Str} {apos cpos : Pos} {T id : String} {r : V → List V → Hp → VK → Prop}
theorem pe_bm0 (pa : PlainAttrs T) (slot : Slot T name id) (hty : typeOf (.builtin id) = pure (.type "method_descriptor")) (hm : MtR X id r) (ho : PE X o to)
    (hbase : attributeBase o name X.env (eval o X.env) = eval o X.env := by rfl) (hline : (apos.endLine == cpos.line) = true := by rfl) : PE X (.Call (.Attribute o name apos) [] [] cpos) (tBM0 X.K T r to) := by
  intro pins s σ H Q I h
  refine wpAny_Call_method0_late hbase hline (thn (ho pins s σ H _ I h) fun v s1 ⟨x, H1, I1, r1, ty, q1⟩ => ?_)
  obtain ⟨h1, h2⟩ := tyV_is I1 r1 ty
  exact ⟨T, id, pa, slot, hty, h1, h2, Calls.callWith_builtin rfl (PySem.evalArgs_none (hm pins s1 σ H1 x [] v [] Q I1 r1 .nil q1))⟩
theorem pe_bm (pa : PlainAttrs T) (slot : Slot T name id) (hty : typeOf (.builtin id) = pure (.type "method_descriptor")) (hm : MtR X id r) (ho : PE X o to) (ha : PA X (e :: es) t)
    (hbase : attributeBase o name X.env (eval o X.env) = eval o X.env := by rfl)
    (hfew : ((backTo cpos (starEach (e :: es) X.env)).all (fun x => !x.1) && (backToKw cpos (keywordEach [] X.env)).all (fun x => x.1.isSome)
      && decide ((e :: es).length + ([] : List Keyword).length + (if ([] : List Keyword).isEmpty then 0 else 1) < 30)) = true := by rfl)
    (hline : (apos.endLine == cpos.line) = true := by rfl) (hs : starEach (e :: es) X.env = (false, eval e X.env) :: starEach es X.env := by rfl) (hplain : (backTo cpos (starEach es X.env)).any (·.1) = false := by rfl) :
    PE X (.Call (.Attribute o name apos) (e :: es) [] cpos) (tBM X.K T r to t) := by
  intro pins s σ H Q I h
  refine wpAny_Call_method_late hbase hfew hline rfl (thn (ho pins s σ H _ I h) fun v s1 ⟨x, H1, I1, r1, ty, q1⟩ => ?_)
  obtain ⟨h1, h2⟩ := tyV_is I1 r1 ty
  refine ⟨T, id, pa, slot, hty, h1, h2, ?_⟩
  have hA := ha cpos pins s1 σ H1 _ I1 q1
  rw [hs] at hA ⊢
  refine Calls.callWith_builtin (by show (false || (backTo cpos (starEach es X.env)).any (·.1)) = false; rw [hplain] <;> rfl) (Calls.evalArgs_plain ?_)
  exact thn hA fun us s2 ⟨vs, H2, I2, r2, q2⟩ => hm pins s2 σ H2 x vs v us Q I2 r1 r2 q2
end
end L2
namespace L2
open PySem PySem.Spec PyProof.Rows
def MtM (X : Cx) (id : String) (r : V → List V → Hp → VK → Prop) : Prop :=
  ∀ (pins : List (Addr × Obj)) (s : Shared) (σ : St) (H : Hp) (x : V) (xs : List V) (v : Value) (us : List Value) (Q : VK), Inv X pins σ H s → RelV x v → Vals xs us → r x xs H Q →
    wpAny (model X.prog X.w) X.A (call (.builtin id) (v :: us)) (EP X pins σ Q) X.xe s
theorem Vals.one : ∀ {x : V} {us : List Value}, Vals [x] us → ∃ u, us = [u] ∧ RelV x u
  | _, _, .cons r .nil => ⟨_, rfl, r⟩
theorem Vals.zero : ∀ {us : List Value}, Vals [] us → us = []
  | _, .nil => rfl
theorem Vals.dropLast {xs : List V} {us : List Value} (h : Vals xs us) : Vals xs.dropLast us.dropLast := by
  induction h with
  | nil => exact .nil
  | cons r t ih =>
    cases t with
    | nil => exact .nil
    | cons q t' => exact .cons r ih
theorem erase_last {α : Type} (l : List α) : l.eraseIdx (l.length - 1) = l.dropLast := by
  induction l with
  | nil => rfl
  | cons a r ih =>
    cases r with
    | nil => rfl
    | cons b r =>
      have e : (a :: b :: r).length - 1 = ((b :: r).length - 1) + 1 := by
        have h1 : (a :: b :: r).length = r.length + 2 := rfl
        have h2 : (b :: r).length = r.length + 1 := rfl
        omega
      rw [e, List.eraseIdx_cons_succ, ih]
      all_goals rfl
section
variable {X : Cx} {pins : List (Addr × Obj)} {σ : St} {H : Hp} {s : Shared} {l b : Addr} {xs ys zs : List V}
theorem Inv.lset {its its' : List Value} {n : Nat} {f : Array Value → Array Value} {t' : Nat} (I : Inv X pins σ H s) (hH : H l = some (.lst xs))
    (e : s.heap.get? l = some { cls := .type "list", data := .seq its.toArray n }) (hf : f its.toArray = its'.toArray) (hv : Vals ys its') (hz : ys.length ≤ sizeLine) :
    Inv X pins σ (upd H l (.lst ys)) { s with heap := s.heap.update l (Obj.mapSeq f), toks := t' } := by
  have q := PySem.IsL.update e f
  rw [hf] at q
  refine I.write (x := l) (e := l) (by rw [hH]; exact trivial) (.inl rfl) (fun b' u hb hu => (Heap.get?_update_other s.heap (Obj.mapSeq f) (Ne.symm hb)).trans hu) ⟨_, q⟩ ?_
  exact ⟨hz, its', _, hv, q⟩
theorem Inv.lnew {its : List Value} {t' : Nat} (I : Inv X pins σ H s) (hv : Vals ys its) (hz : ys.length ≤ sizeLine) :
    Inv X pins σ (upd H s.heap.objs.size (.lst ys)) { s with heap := s.heap.push { cls := .type "list", data := .seq its.toArray }, toks := t' } :=
  I.laid (fun _ _ q => Heap.get?_push_of_some _ q) (Nat.le_refl _) ⟨hz, its, 0, hv, Heap.get?_push_size _ rfl⟩
theorem Inv.fresh (I : Inv X pins σ H s) : H s.heap.objs.size = none := I.hok.fresh (Nat.le_refl _)
theorem Inv.lstM (I : Inv X pins σ H s) (hH : H l = some (.lst xs)) : xs.length ≤ sizeLine ∧ ∃ (its : List Value) (n : Nat), Vals xs its ∧ xs.length = its.length ∧ s.heap.get? l = some { cls := .type "list", data := .seq its.toArray n } := by
  obtain ⟨z, its, n, r, e⟩ := I.hok l _ hH
  exact ⟨z, its, n, r, r.length, e⟩
theorem notLongL {n : Nat} (h : n ≤ sizeLine) : Builtin.List.listTooLong n = false := by
  unfold Builtin.List.listTooLong
  exact decide_eq_false (by omega)
end
section
variable {X : Cx}
def rAppend : V → List V → Hp → VK → Prop := fun x vs H Q => ∃ l xs y, x = .ref l ∧ vs = [y] ∧ H l = some (.lst xs) ∧ xs.length < sizeLine ∧ Q .non (upd H l (.lst (xs ++ [y])))
theorem mt_append : MtM X "list.append" rAppend := by
  intro pins s σ H x vs v us Q I rx rv h
  obtain ⟨l, xs, y, rfl, rfl, hH, hz, q⟩ := h
  cases rx
  obtain ⟨u, rfl, ru⟩ := rv.one
  obtain ⟨z, its, n, r, hl, e⟩ := I.lstM hH
  refine call_meets F.slot_list_append ⟨_, e, rfl⟩ F.entry_list_append (F.args_list_append_2 _ _) (PySem.list_append l its.toArray n u (by rw [List.size_toArray]; omega)) ⟨e, ?_⟩
  refine ⟨.non, _, I.lset (its' := its ++ [u]) hH e (by simp) (r.append (.cons ru .nil)) ?_, rfl, q⟩
  rw [List.length_append, List.length_singleton]
  omega
def rExtend : V → List V → Hp → VK → Prop := fun x vs H Q => ∃ l b xs zs, x = .ref l ∧ vs = [.ref b] ∧ H l = some (.lst xs) ∧ H b = some (.lst zs) ∧ xs.length + zs.length ≤ sizeLine ∧ Q .non (upd H l (.lst (xs ++ zs)))
theorem mt_extend : MtM X "list.extend" rExtend := by
  intro pins s σ H x vs v us Q I rx rv h
  obtain ⟨l, b, xs, zs, rfl, rfl, hH, hB, hz, q⟩ := h
  cases rx
  obtain ⟨u, rfl, ru⟩ := rv.one
  cases ru
  obtain ⟨z, its, n, r, hl, e⟩ := I.lstM hH
  obtain ⟨z2, its2, n2, r2, hl2, e2⟩ := I.lstM hB
  have hsz : its.toArray.size + its2.toArray.size ≤ sizeLine := by rw [List.size_toArray, List.size_toArray]; omega
  have hlong : ¬ (!its.toArray.isEmpty && Builtin.List.listTooLong (its.toArray.size + its2.toArray.size)) = true := by
    rw [notLongL hsz, Bool.and_false]
    exact Bool.false_ne_true
  refine call_meets F.slot_list_extend ⟨_, e, rfl⟩ F.entry_list_extend (F.args_list_extend_2 _ _)
    (AutoSeq1.list_extend_list_list_0 l its.toArray n b its2.toArray n2 hlong (by rw [List.size_toArray]; omega) (by omega)) ⟨e, e2, ?_⟩
  refine ⟨.non, _, I.lset (its' := its ++ its2) hH e (by simp) (r.append r2) ?_, rfl, q⟩
  rw [List.length_append]
  omega
def rPop : V → List V → Hp → VK → Prop := fun x vs H Q => ∃ l xs y, x = .ref l ∧ vs = [] ∧ H l = some (.lst xs) ∧ xs[xs.length - 1]? = some y ∧ Q y (upd H l (.lst xs.dropLast))
theorem mt_pop : MtM X "list.pop" rPop := by
  intro pins s σ H x vs v us Q I rx rv h
  obtain ⟨l, xs, y, rfl, rfl, hH, hy, q⟩ := h
  cases rx
  have hus := rv.zero
  subst hus
  obtain ⟨z, its, n, r, hl, e⟩ := I.lstM hH
  obtain ⟨u, hu, ru⟩ := r.get hy
  have hy' : its.toArray[its.toArray.size - 1]? = some u := by
    show its.toArray[its.length - 1]? = some u
    rw [← Array.getElem?_toList, ← hl]
    exact hu
  refine call_meets F.slot_list_pop ⟨_, e, rfl⟩ F.entry_list_pop (F.args_list_pop_1 _) (MeetsSeq.list_pop_last l its.toArray n u hy' (by rw [List.size_toArray]; omega)) ⟨e, ?_⟩
  refine ⟨y, _, I.lset (its' := its.dropLast) hH e ?_ r.dropLast ?_, ru, q⟩
  · show its.toArray.eraseIdxIfInBounds (its.toArray.size - 1) = its.dropLast.toArray
    rw [List.size_toArray, List.eraseIdxIfInBounds_toArray, erase_last]
  · rw [List.length_dropLast]
    omega
def rCat : R2 := fun x y H Q => ∃ l b xs zs, x = .ref l ∧ y = .ref b ∧ H l = some (.lst xs) ∧ H b = some (.lst zs) ∧ xs.length + zs.length ≤ sizeLine ∧ ∀ p, H p = none → Q (.ref p) (upd H p (.lst (xs ++ zs)))
theorem op_cat : OpR X (binaryOp .Add) rCat := by
  intro pins s σ H x y v u Q I rx ry h
  obtain ⟨l, b, xs, zs, rfl, rfl, hH, hB, hz, q⟩ := h
  cases rx
  cases ry
  obtain ⟨z, its, n, r, hl, e⟩ := I.lstM hH
  obtain ⟨z2, its2, n2, r2, hl2, e2⟩ := I.lstM hB
  refine PySem.P.add_list e e2 ?_ (by rw [List.size_toArray, List.size_toArray]; omega)
  have ea : its.toArray ++ its2.toArray = (its ++ its2).toArray := by simp
  rw [ea]
  exact ⟨.ref _, _, I.lnew (t' := s.toks) (r.append r2) (by rw [List.length_append]; omega), rfl, q _ I.fresh⟩
end
section
variable {prog : Program} {w : World} {A : Around} {E : Value → Shared → Prop} {s : Shared}
set_option maxRecDepth 100000 in
end
section
variable {X : Cx}
end
end L2
namespace L2
open PySem PySem.Spec PyProof.Rows
theorem Vals.ints : ∀ {ns : List Int} {us : List Value}, Vals (ns.map V.int) us → IntsAre us ns
  | [], us, h => by
    rw [List.map_nil] at h
    cases h
    exact IntsAre.nil
  | n :: ns, us, h => by
    rw [List.map_cons] at h
    cases h with
    | cons r t =>
      obtain ⟨k, rfl⟩ := r
      exact IntsAre.cons n k (Vals.ints t)
theorem Vals.bls : ∀ {bs : List Bool} {us : List Value}, Vals (bs.map V.bl) us → us = bs.map Value.bool
  | [], us, h => by
    rw [List.map_nil] at h
    cases h
    rfl
  | b :: bs, us, h => by
    rw [List.map_cons] at h
    cases h with
    | cons r t =>
      cases r
      rw [Vals.bls t, List.map_cons]
theorem Vals.ref1 {a : Addr} {us : List Value} (r : Vals [V.ref a] us) : us = [Value.ref a] := by
  cases r with
  | cons r t =>
    cases t
    cases r
    rfl
section
variable {prog : Program} {w : World} {A : Around} {E : Value → Shared → Prop} {s : Shared} {l : Addr} {its : List Value} {ns : List Int} {Q : Value → Shared → Prop}
theorem max_raw (hh : A.handled = none) (hl : s.heap.IsList l its.toArray) (hi : IntsAre its ns) (hne : 0 < ns.length)
    (h : ∀ h' tk M t', (∀ b o, s.heap.get? b = some o → h'.get? b = some o) → M ∈ ns → (∀ a, a ∈ ns → a ≤ M) → Q (.int M t') { s with heap := h', toks := tk }) : wpAny (model prog w) A (call (.builtin "max") [.ref l]) Q E s := by
  obtain ⟨xs, e⟩ := hi.allInts.items
  have hn : numsOf (intItems xs).toList = ns := by rw [← e]; exact hi.numsOf
  rw [nums_intItems] at hn
  subst hn
  rw [e] at hl
  have hsz : 0 < xs.size := by simpa using hne
  refine PySem.max_intList hh hl hsz fun v h' tk hv hk => ?_
  obtain ⟨t, rfl⟩ := intItems_at hv
  obtain ⟨h1, h2⟩ := argBest_gt (numAt xs) (xs.size - 1)
  refine h h' tk _ t hk ?_ fun a ha => ?_
  · rw [numAt_eq]; exact PySem.getD_mem (by rw [List.length_map, Array.length_toList]; omega)
  · obtain ⟨j, hj, rfl⟩ := mem_getD ha
    rw [List.length_map, Array.length_toList] at hj
    rw [← numAt_eq]; exact h2 j (by omega)
end
section
variable {X : Cx}
def rMax (K : PySem.W.Frag) : List V → Hp → VK → Prop := fun vs H Q => ∃ (a : Addr) (ns : List Int), vs = [V.ref a] ∧ SqL K H a (ns.map V.int) ∧ 0 < ns.length ∧ ∀ m, m ∈ ns → (∀ y, y ∈ ns → y ≤ m) → Q (.int m) H
theorem cr_max (hc : X.calm = true) : CallR X (.builtin "max") (rMax X.K) := by
  intro pins s σ H vs us Q I r h
  obtain ⟨a, ns, rfl, hs, hne, q⟩ := h
  obtain ⟨its, rv, hl, _⟩ := I.list hs
  rw [Vals.ref1 r]
  exact max_raw (I.ok.hd hc) hl.isList rv.ints hne fun h' tk m t' hk h1 h2 => ⟨.int _, H, I.kept hk, ⟨_, rfl⟩, q m h1 h2⟩
end
section
variable {X : Cx}
end
section
variable {X : Cx}
end
theorem iter_any {prog : Program} {w : World} {A : Around} {E : Value → Shared → Prop} {s : Shared} {l : Addr} {items : Array Value} {Q : Value → Shared → Prop} (hl : s.heap.IsList l items)
    (h : ∀ s₂ : Shared, s₂ = { s with heap := s.heap.push { cls := .type "list_iterator", data := .fields #[.ref l, .int 0 0] } } →
      (s₂.heap.IsListIter s.heap.objs.size l 0 ∧ s₂.heap.IsList l items) → l ≠ s.heap.objs.size → Q (.ref s.heap.objs.size) s₂) : wpAny (model prog w) A (pyIter (.ref l)) Q E s := by
  have hlt : l < s.heap.objs.size := by obtain ⟨_, e, _⟩ := hl; exact Heap.lt_size e
  exact wpAny_pyIter_list hl (h _ rfl ⟨⟨_, Heap.get?_push_size _ rfl, rfl, rfl⟩, hl.push _⟩ (Nat.ne_of_lt hlt))
theorem truth_bools {prog : Program} {w : World} {A : Around} {bs : List Bool} {its : List Value} (e : its = bs.map Value.bool) :
    TruthOf prog w A (fun i v => its.toArray[i]? = some v) (fun i => bs.getD i false) := fun i v s Q E hv hq => by
  have hv' : its[i]? = some v := by simpa using hv
  rw [e, List.getElem?_map] at hv'
  obtain ⟨b, hb, rfl⟩ := Option.map_eq_some_iff.mp hv'
  have hg : bs.getD i false = b := by rw [List.getD_eq_getElem?_getD, hb] <;> rfl
  have hq' : Q (bs.getD i false) s := hq
  rw [hg] at hq'
  exact wpAny_truthy_bool hq'
theorem any_range : ∀ bs : List Bool, (List.range bs.length).any (fun i => bs.getD i false) = bs.any id
  | [] => rfl
  | b :: bs => by
    rw [List.length_cons, List.range_succ_eq_map, List.any_cons, List.any_map, List.any_cons, ← any_range bs]
    all_goals rfl
theorem all_range : ∀ bs : List Bool, (List.range bs.length).all (fun i => bs.getD i false) = bs.all id
  | [] => rfl
  | b :: bs => by
    rw [List.length_cons, List.range_succ_eq_map, List.all_cons, List.all_map, List.all_cons, ← all_range bs]
    all_goals rfl
section
variable {X : Cx}
def rAny (K : PySem.W.Frag) : List V → Hp → VK → Prop := fun vs H Q => ∃ (a : Addr) (bs : List Bool), vs = [V.ref a] ∧ SqL K H a (bs.map V.bl) ∧ Q (.bl (bs.any id)) H
def rAll (K : PySem.W.Frag) : List V → Hp → VK → Prop := fun vs H Q => ∃ (a : Addr) (bs : List Bool), vs = [V.ref a] ∧ SqL K H a (bs.map V.bl) ∧ Q (.bl (bs.all id)) H
theorem cr_any (hc : X.calm = true) : CallR X (.builtin "any") (rAny X.K) := by
  intro pins s σ H vs us Q I r h
  obtain ⟨a, bs, rfl, hs, q⟩ := h
  obtain ⟨its, rv, hl, _⟩ := I.list hs
  rw [Vals.ref1 r]
  have hb := rv.bls
  refine call_any_walk (iter_any hl.isList fun s₂ e2 st hne => ?_)
  subst e2
  refine ⟨_, _, _, _, _, _, _, rfl, Walks.list (A := X.A.in1) (I.ok.hd hc) _ a hne its.toArray, st, truth_bools hb, fun h' tk hk => ?_⟩
  refine ⟨.bl _, H, I.kept fun b o eo => hk b o (fun hmem => ?_) (Heap.get?_push_of_some _ eo), ?_, q⟩
  · rcases List.mem_cons.mp hmem with e1 | hmem
    · exact absurd (e1 ▸ Heap.lt_size eo) (Nat.lt_irrefl _)
    · cases hmem
  · show Value.bool _ = Value.bool _
    rw [← any_range, hb, List.size_toArray, List.length_map]
theorem cr_all (hc : X.calm = true) : CallR X (.builtin "all") (rAll X.K) := by
  intro pins s σ H vs us Q I r h
  obtain ⟨a, bs, rfl, hs, q⟩ := h
  obtain ⟨its, rv, hl, _⟩ := I.list hs
  rw [Vals.ref1 r]
  have hb := rv.bls
  refine call_all_walk (iter_any hl.isList fun s₂ e2 st hne => ?_)
  subst e2
  refine ⟨_, _, _, _, _, _, _, rfl, Walks.list (A := X.A.in1) (I.ok.hd hc) _ a hne its.toArray, st, truth_bools hb, fun h' tk hk => ?_⟩
  refine ⟨.bl _, H, I.kept fun b o eo => hk b o (fun hmem => ?_) (Heap.get?_push_of_some _ eo), ?_, q⟩
  · rcases List.mem_cons.mp hmem with e1 | hmem
    · exact absurd (e1 ▸ Heap.lt_size eo) (Nat.lt_irrefl _)
    · cases hmem
  · show Value.bool _ = Value.bool _
    rw [← all_range, hb, List.size_toArray, List.length_map]
end
section
variable {X : Cx} {pins : List (Addr × Obj)} {σ : St} {H : Hp} {s : Shared}
end
section
variable {X : Cx}
end
end L2
namespace L2
open PySem PySem.Spec PyProof.Rows
abbrev CellAt (h : Heap) (c : Addr) (v : Option Value) : Prop := h.IsCell c v
def relS (scope sc : Scope) : Scope :=
  { scope with names := scope.names.map fun (n, k) => if (k == .free && sc.kind == .function && sc.names.lookup n == some .cell) then (n, .cell) else (n, k) }
def cloFrom (cells : List (Str × Addr)) : List (Str × NameKind) → List (Str × Addr) → List (Str × Addr)
  | [], acc => acc
  | (n, k) :: r, acc => if k == .free then cloFrom cells r ((n, (cells.lookup n).getD 0) :: acc) else cloFrom cells r acc
theorem closure_loop (env : Env) (f : Str × NameKind → List (Str × Addr) → Sem (ForInStep (List (Str × Addr))))
    (hf : ∀ n k c, f (n, k) c = if k == .free then (do let a ← cellOf env n; pure (.yield ((n, a) :: c))) else pure (.yield c)) :
    ∀ (names : List (Str × NameKind)) (acc : List (Str × Addr)), (∀ y ∈ names, y.2 = .free → ∃ c, env.cells.lookup y.1 = some c) → forIn names acc f = pure (cloFrom env.cells names acc)
  | [], acc, _ => by rw [List.forIn_nil]; rfl
  | (n, k) :: r, acc, h => by
    rw [List.forIn_cons, hf]
    have ih := fun acc => closure_loop env f hf r acc fun y hy => h y (List.mem_cons_of_mem _ hy)
    unfold cloFrom
    by_cases hk : (k == NameKind.free) = true
    · rw [if_pos hk, if_pos hk]
      obtain ⟨c, hc⟩ := h (n, k) List.mem_cons_self (by simpa using hk)
      have e : cellOf env n = pure c := by unfold cellOf; rw [hc]
      rw [e]
      have e2 : (env.cells.lookup n).getD 0 = c := by rw [hc]; rfl
      rw [e2]
      exact ih _
    · rw [if_neg hk, if_neg hk]
      exact ih _
theorem closure_ok {scope : Scope} {env : Env} (h : ∀ y ∈ scope.names, y.2 = .free → ∃ c, env.cells.lookup y.1 = some c) : closureFor scope env = pure (cloFrom env.cells scope.names []) := by
  simp only [closureFor]
  rw [closure_loop env _ (fun n k c => rfl) scope.names [] h]
  rfl
theorem mem_lookup {α : Type} : ∀ {l : List (Str × α)} {n : Str} {c : α}, (n, c) ∈ l → ∃ c', l.lookup n = some c'
  | (k, v) :: r, n, c, h => by
    rw [List.lookup_cons]
    cases hb : n == k with
    | true => exact ⟨_, rfl⟩
    | false =>
      rcases List.mem_cons.mp h with e | h
      · cases e; simp at hb
      · exact mem_lookup h
theorem cloFrom_mem {cells : List (Str × Addr)} : ∀ {names : List (Str × NameKind)} {acc : List (Str × Addr)} {n : Str} {c : Addr}, (n, c) ∈ cloFrom cells names acc → (n, c) ∈ acc ∨ ((n, .free) ∈ names ∧ c = (cells.lookup n).getD 0)
  | [], _, _, _, h => .inl h
  | (m, k) :: r, acc, n, c, h => by
    unfold cloFrom at h
    split at h
    · rename_i hk
      have hk : k = .free := by simpa using hk
      rcases cloFrom_mem h with h | ⟨h1, h2⟩
      · rcases List.mem_cons.mp h with e | h
        · cases e; exact .inr ⟨hk ▸ List.mem_cons_self, rfl⟩
        · exact .inl h
      · exact .inr ⟨List.mem_cons_of_mem _ h1, h2⟩
    · rcases cloFrom_mem h with h | ⟨h1, h2⟩
      · exact .inl h
      · exact .inr ⟨List.mem_cons_of_mem _ h1, h2⟩
theorem cloFrom_acc {cells : List (Str × Addr)} : ∀ {names : List (Str × NameKind)} {acc : List (Str × Addr)} {p : Str × Addr}, p ∈ acc → p ∈ cloFrom cells names acc
  | [], _, _, h => h
  | (m, k) :: r, acc, p, h => by
    unfold cloFrom
    split
    · exact cloFrom_acc (List.mem_cons_of_mem _ h)
    · exact cloFrom_acc h
theorem cloFrom_has {cells : List (Str × Addr)} : ∀ {names : List (Str × NameKind)} {acc : List (Str × Addr)} {n : Str}, (n, .free) ∈ names → (n, (cells.lookup n).getD 0) ∈ cloFrom cells names acc
  | (m, k) :: r, acc, n, h => by
    unfold cloFrom
    rcases List.mem_cons.mp h with e | h
    · cases e
      exact cloFrom_acc List.mem_cons_self
    · split
      · exact cloFrom_has h
      · exact cloFrom_has h
theorem cells_mem : ∀ {names : List (Str × NameKind)} {h : Heap} {acc : List (Str × Addr)} {x : Str} {c : Addr}, (x, c) ∈ cellsFrom h.objs.size names acc →
    (x, c) ∈ acc ∨ ((x, .cell) ∈ names ∧ h.objs.size ≤ c ∧ CellAt (pushCells h names) c none)
  | [], _, _, _, _, h => .inl h
  | (n, k) :: r, h, acc, x, c, hm => by
    unfold cellsFrom at hm
    unfold pushCells
    split at hm
    · rename_i hk
      rw [if_pos hk]
      have hk : k = .cell := by simpa using hk
      rw [← Heap.size_push h { cls := .type "cell", data := .cell none }] at hm
      rcases cells_mem hm with hm | ⟨h1, h2, h3⟩
      · rcases List.mem_cons.mp hm with e | hm
        · cases e
          exact .inr ⟨hk ▸ List.mem_cons_self, Nat.le_refl _, _, pushCells_keeps r _ _ _ (Heap.get?_push_size _ rfl), rfl⟩
        · exact .inl hm
      · rw [Heap.size_push] at h2
        exact .inr ⟨List.mem_cons_of_mem _ h1, Nat.le_of_succ_le h2, h3⟩
    · rename_i hk
      rw [if_neg hk]
      rcases cells_mem hm with hm | ⟨h1, h2, h3⟩
      · exact .inl hm
      · exact .inr ⟨List.mem_cons_of_mem _ h1, h2, h3⟩
theorem cells_acc : ∀ {names : List (Str × NameKind)} {n : Nat} {acc : List (Str × Addr)} {p : Str × Addr}, p ∈ acc → p ∈ cellsFrom n names acc
  | [], _, _, _, h => h
  | (m, k) :: r, n, acc, p, h => by
    unfold cellsFrom
    split
    · exact cells_acc (List.mem_cons_of_mem _ h)
    · exact cells_acc h
theorem cells_has : ∀ {names : List (Str × NameKind)} {n : Nat} {acc : List (Str × Addr)} {x : Str}, (x, .cell) ∈ names → ∃ c, (x, c) ∈ cellsFrom n names acc
  | (m, k) :: r, n, acc, x, h => by
    unfold cellsFrom
    rcases List.mem_cons.mp h with e | h
    · cases e
      exact ⟨n, cells_acc List.mem_cons_self⟩
    · split
      · exact cells_has h
      · exact cells_has h
theorem cells_inj : ∀ {names : List (Str × NameKind)} {h : Heap} {acc : List (Str × Addr)} {x y : Str} {c : Addr}, (∀ p ∈ acc, p.2 < h.objs.size) → (∀ x y c, (x, c) ∈ acc → (y, c) ∈ acc → x = y) →
    (x, c) ∈ cellsFrom h.objs.size names acc → (y, c) ∈ cellsFrom h.objs.size names acc → x = y
  | [], _, _, _, _, _, _, hi, h1, h2 => hi _ _ _ h1 h2
  | (n, k) :: r, h, acc, x, y, c, hl, hi, h1, h2 => by
    unfold cellsFrom at h1 h2
    split at h1
    · rename_i hk
      rw [if_pos hk] at h2
      rw [← Heap.size_push h { cls := .type "cell", data := .cell none }] at h1 h2
      refine cells_inj (h := h.push _) (fun p hp => ?_) (fun x y c a b => ?_) h1 h2
      · rw [Heap.size_push]
        rcases List.mem_cons.mp hp with rfl | hp
        · exact Nat.lt_succ_self _
        · exact Nat.lt_succ_of_lt (hl p hp)
      · rcases List.mem_cons.mp a with e | a <;> rcases List.mem_cons.mp b with e' | b
        · cases e; cases e'; rfl
        · cases e; exact absurd (hl _ b) (Nat.lt_irrefl _)
        · cases e'; exact absurd (hl _ a) (Nat.lt_irrefl _)
        · exact hi _ _ _ a b
    · rename_i hk
      rw [if_neg hk] at h2
      exact cells_inj hl hi h1 h2
theorem newEnv_comp {M : Model} {A : Around} {E : Value → Shared → Prop} {s : Shared} {scope : Scope} {globals : Addr} {closure : List (Str × Addr)} {qual : Str} {func : Option Addr} {code : Value} {around : Env} {builtins : Addr} {Q : Env → Shared → Prop}
    (h : Q (newEnv scope s.heap.objs.size globals (cellsFrom (s.heap.objs.size + 1) scope.names closure) qual func code (some around) builtins)
      { s with heap := pushCells (s.heap.push { cls := .type "dict", data := .dict #[] }) scope.names }) :
    wpAny M A (newFunctionEnv scope globals closure [] qual func code (some around) builtins) Q E s := by
  simp only [newFunctionEnv, Option.isSome_some, if_true]
  refine wpAny_bind (wpAny_alloc ?_)
  refine wpAny_bind (wpAny_layCells _ (fun n k c => rfl) scope.names closure _ _ ?_)
  rw [show ({ s with heap := s.heap.push { cls := .type "dict", data := .dict #[] } } : Shared).heap.objs.size = s.heap.objs.size + 1 from Heap.size_push ..]
  rw [List.forIn_nil]
  exact wpAny_bind (wpAny_pure (wpAny_pure h))
theorem lookup_relS {sc : Scope} : ∀ {names : List (Str × NameKind)} {x : Str} {k : NameKind},
    (names.map fun (n, k) => if (k == NameKind.free && sc.kind == .function && sc.names.lookup n == some .cell) then (n, NameKind.cell) else (n, k)).lookup x = some k →
    ∃ k', names.lookup x = some k' ∧ (k = k' ∨ (k' = .free ∧ k = .cell))
  | [], _, _, h => by simp at h
  | (n, k₀) :: r, x, k, h => by
    have ih := @lookup_relS sc r x k
    have h' : List.lookup x ((if (k₀ == NameKind.free && sc.kind == .function && sc.names.lookup n == some .cell) = true then (n, NameKind.cell) else (n, k₀)) :: (r.map _)) = some k := h
    cases hx : x == n with
    | true =>
      simp only [List.lookup_cons, hx]
      by_cases hc : (k₀ == NameKind.free && sc.kind == .function && sc.names.lookup n == some .cell) = true
      · rw [if_pos hc] at h'
        simp only [List.lookup_cons, hx] at h'
        cases h'
        simp only [Bool.and_eq_true, beq_iff_eq] at hc
        exact ⟨k₀, rfl, .inr ⟨hc.1.1, rfl⟩⟩
      · rw [if_neg hc] at h'
        simp only [List.lookup_cons, hx] at h'
        cases h'
        exact ⟨_, rfl, .inl rfl⟩
    | false =>
      simp only [List.lookup_cons, hx]
      by_cases hc : (k₀ == NameKind.free && sc.kind == .function && sc.names.lookup n == some .cell) = true
      · rw [if_pos hc] at h'
        simp only [List.lookup_cons, hx] at h'
        exact ih h'
      · rw [if_neg hc] at h'
        simp only [List.lookup_cons, hx] at h'
        exact ih h'
structure BlkOk (N : List Str) (sc scope : Scope) (own : List (Str × Nat)) : Prop where
  kind : scope.kind = .function
  uniq : ∀ y ∈ scope.names, scope.names.lookup y.1 = some y.2
  ix : ∀ p ∈ own, N[p.2]? = some p.1
  free : ∀ y ∈ scope.names, y.2 = .free → sc.names.lookup y.1 = some .cell ∨ sc.names.lookup y.1 = some .free
  own : ∀ y ∈ scope.names, y.2 = .local ∨ y.2 = .cell → y.1 ∈ own.map (·.1) ∨ y.1 ∉ N
def wipe (σ : St) : List Nat → St
  | [] => σ
  | v :: vs => (wipe σ vs).set v none
theorem wipe_length (σ : St) : ∀ vs : List Nat, (wipe σ vs).length = σ.length
  | [] => rfl
  | v :: vs => by unfold wipe; rw [List.length_set, wipe_length σ vs]
theorem wipe_some {σ : St} {i : Nat} {x : V} : ∀ {vs : List Nat}, (wipe σ vs)[i]? = some (some x) → σ[i]? = some (some x) ∧ i ∉ vs
  | [], h => ⟨h, by simp⟩
  | v :: vs, h => by
    unfold wipe at h
    by_cases hi : v = i
    · subst hi
      by_cases hv : v < (wipe σ vs).length
      · rw [List.getElem?_set_self hv] at h; cases h
      · rw [List.getElem?_eq_none (by simpa using hv)] at h; cases h
    · rw [List.getElem?_set_ne hi] at h
      obtain ⟨h1, h2⟩ := wipe_some h
      exact ⟨h1, by simp only [List.mem_cons, not_or]; exact ⟨fun e => hi e.symm, h2⟩⟩
abbrev Cx.blk (X : Cx) (s : Shared) (H : Hp) (scope : Scope) (cenv : Env) (fp : List Addr) : Cx := { X with s_0 := s, H_0 := H, env := cenv, outer := X.stack, ex := fp, fn := fun x => scope.names.lookup x == some .cell, pn := [], xe := fun _ _ => False }
section
variable {X : Cx} {pins : List (Addr × Obj)} {σ : St} {H : Hp} {s : Shared}
theorem block_start {scope : Scope} {own : List (Str × Nat)} {fp : List Addr} (I : Inv X pins σ H s) (ok : BlkOk X.N X.env.scope scope own) (hN : X.N.Nodup) (hfp : ∀ b ∈ fp, FpOk X pins H b ∧ b < s.heap.objs.size) :
    Inv (X.blk s H scope (compEnvC scope (cellsFrom (s.heap.objs.size + 1) scope.names (cloFrom X.env.cells scope.names [])) s.heap.objs.size X.env) fp) [] (wipe σ (own.map (·.2))) H { s with heap := pushCells (s.heap.push { cls := .type "dict", data := .dict #[] }) scope.names } := by
  have hfree : ∀ y ∈ scope.names, y.2 = .free → ∃ c, X.env.cells.lookup y.1 = some c := fun y hy e => by
    rcases ok.free y hy e with k | k
    · exact I.ok.has _ (.inl k)
    · exact I.ok.has _ (.inr k)
  generalize hcenv : compEnvC scope (cellsFrom (s.heap.objs.size + 1) scope.names (cloFrom X.env.cells scope.names [])) s.heap.objs.size X.env = cenv
  have kp : ∀ b o, s.heap.get? b = some o → (pushCells (s.heap.push { cls := .type "dict", data := .dict #[] }) scope.names).get? b = some o := fun b o e => pushCells_keeps _ _ _ _ (Heap.get?_push_of_some _ e)
  have hL : cenv.locals = s.heap.objs.size := by rw [← hcenv]; rfl
  have hcl : cenv.cells = cellsFrom (s.heap.objs.size + 1) scope.names (cloFrom X.env.cells scope.names []) := by rw [← hcenv]; rfl
  have hsc : cenv.scope = relS scope X.env.scope := by rw [← hcenv]; rfl
  rw [← Heap.size_push s.heap { cls := .type "dict", data := .dict #[] }] at hcl
  have cm : ∀ {y c}, (y, c) ∈ cloFrom X.env.cells scope.names [] → X.env.cells.lookup y = some c ∧ c < s.heap.objs.size := fun {y c} hm => by
    rcases cloFrom_mem hm with hm | ⟨h1, rfl⟩
    · cases hm
    · obtain ⟨c, hc⟩ := hfree _ h1 rfl
      rw [hc]
      obtain ⟨w, z⟩ := I.cell _ _ hc
      exact ⟨rfl, z.lt⟩
  have mem : ∀ {y c}, cenv.cells.lookup y = some c → (X.env.cells.lookup y = some c ∧ c < s.heap.objs.size) ∨ (s.heap.objs.size + 1 ≤ c ∧ CellAt (pushCells (s.heap.push { cls := .type "dict", data := .dict #[] }) scope.names) c none) := fun {y c} e => by
    rw [hcl] at e
    rcases cells_mem (PySem.mem_of_lookup e) with hm | ⟨_, h2, h3⟩
    · exact .inl (cm hm)
    · rw [Heap.size_push] at h2; exact .inr ⟨h2, h3⟩
  have look : ∀ {y}, scope.names.lookup y = some .free → ∃ c, cenv.cells.lookup y = some c ∧ X.env.cells.lookup y = some c := fun {y} hl => by
    have hy : (y, NameKind.free) ∈ scope.names := PySem.mem_of_lookup hl
    obtain ⟨c', e'⟩ := mem_lookup (cells_acc (names := scope.names) (n := (s.heap.push { cls := .type "dict", data := .dict #[] }).objs.size) (cloFrom_has (cells := X.env.cells) (acc := []) hy))
    rw [← hcl] at e'
    refine ⟨c', e', ?_⟩
    rw [hcl] at e'
    rcases cells_mem (PySem.mem_of_lookup e') with hm | ⟨h1, _, _⟩
    · exact (cm hm).1
    · have := ok.uniq _ h1
      rw [hl] at this; cases this
  have okB : (X.blk s H scope cenv fp).Ok := by
    refine ⟨I.ok.mod, by show cenv.scope.kind = _; rw [hsc]; exact ok.kind, by show cenv.globals = _; rw [← hcenv]; exact I.ok.glob, by show cenv.builtins = _; rw [← hcenv]; exact I.ok.blt, by show s.heap.objs.size ≤ cenv.locals; rw [hL]; exact Nat.le_refl _,
      fun y z c e1 e2 => ?_, fun y hy => ?_, fun y c z e => ?_, I.ok.hd, I.ok.frames, .inl rfl, fun b hb => ⟨?_, fun y c e z => ?_⟩, I.bs, Nat.le_trans I.ok.bsz I.sz, fun b o e hb => ?_, fun b hb z => ?_, I.stack, I.stkFree⟩
    · have e1 : cenv.cells.lookup y = some c := e1
      have e2 : cenv.cells.lookup z = some c := e2
      rw [hcl] at e1 e2
      refine cells_inj (fun p hp => ?_) (fun y z c a b => I.ok.inj y z c (cm a).1 (cm b).1) (PySem.mem_of_lookup e1) (PySem.mem_of_lookup e2)
      rw [Heap.size_push]
      exact Nat.lt_succ_of_lt (cm (y := p.1) (c := p.2) hp).2
    · show ∃ c, cenv.cells.lookup y = some c
      have key : ∀ k, cenv.kindOf y = some k → (k = .cell ∨ k = .free) → ∃ c, cenv.cells.lookup y = some c := fun k hk hk' => by
        unfold Env.kindOf at hk
        rw [hsc] at hk
        obtain ⟨k', e, r⟩ := lookup_relS hk
        have : k' = .cell ∨ k' = .free := by
          rcases r with rfl | ⟨rfl, _⟩
          · exact hk'
          · exact .inr rfl
        rcases this with rfl | rfl
        · obtain ⟨c, hm⟩ := cells_has (n := (s.heap.push { cls := .type "dict", data := .dict #[] }).objs.size) (acc := cloFrom X.env.cells scope.names []) (PySem.mem_of_lookup e)
          obtain ⟨c', e'⟩ := mem_lookup hm
          exact ⟨c', by rw [hcl]; exact e'⟩
        · obtain ⟨c, h1, _⟩ := look e
          exact ⟨c, h1⟩
      rcases hy with hy | hy
      · exact key _ hy (.inl rfl)
      · exact key _ hy (.inr rfl)
    · have z : (scope.names.lookup y == some NameKind.cell) = true := z
      have z : scope.names.lookup y = some .cell := by simpa using z
      have e : cenv.cells.lookup y = some c := e
      rw [hcl] at e
      rcases cells_mem (PySem.mem_of_lookup e) with hm | ⟨_, h2, _⟩
      · rcases cloFrom_mem hm with hm | ⟨h1, _⟩
        · cases hm
        · have q := ok.uniq _ h1
          rw [z] at q; cases q
      · rw [Heap.size_push] at h2
        exact Nat.le_of_succ_le h2
    · show b ≠ cenv.locals
      rw [hL]; exact Nat.ne_of_lt (hfp b hb).2
    · have e : cenv.cells.lookup y = some c := e
      rcases mem e with ⟨h1, _⟩ | ⟨h1, _⟩
      · exact (hfp b hb).1.2.2.2.2.1 y c h1 z
      · have h2 : s.heap.objs.size + 1 ≤ b := by rw [← z]; exact h1
        exact absurd (Nat.lt_of_lt_of_le (hfp b hb).2 (Nat.le_of_succ_le h2)) (Nat.lt_irrefl _)
    · rcases (hfp b hb).1.2.2.2.1 with z | z
      · exact I.ok.noex b o e z
      · exact absurd (Nat.lt_of_lt_of_le (Heap.lt_size e) (Nat.le_trans I.ok.bsz z)) (Nat.lt_irrefl _)
    · rcases List.mem_cons.mp (I.stkSub b z) with z | z
      · exact (hfp b hb).1.2.1 z
      · exact (hfp b hb).1.2.2.1 z
  refine ⟨okB, rfl, I.bare, Un.kept kp, ⟨fun _ => none, ?_, fun i y av e1 e2 e3 => ?_⟩, fun y c e => ?_, ?_, fun y c e => ?_, fun p hp => ?_, I.hok.kept kp, by rw [wipe_length]; exact I.len⟩
  · show Heap.Ns _ cenv.locals _
    rw [hL]
    exact Heap.Ns.keeps (Heap.Ns.new ..) fun b o e => pushCells_keeps _ _ _ _ e
  · obtain ⟨e2, hne⟩ := wipe_some e2
    have hfr : scope.names.lookup y = some .free ∧ (cenv.kindOf y = some .cell ∨ cenv.kindOf y = some .free) := by
      have key : ∀ k, cenv.scope.names.lookup y = some k → k = .local ∨ k = .cell ∨ k = .free → scope.names.lookup y = some .free ∧ (cenv.kindOf y = some .cell ∨ cenv.kindOf y = some .free) := fun k hk hk' => by
        have hk0 := hk
        rw [hsc] at hk
        obtain ⟨k', e, r⟩ := lookup_relS hk
        have no : ¬ (k' = .local ∨ k' = .cell) := fun hh => by
          rcases ok.own _ (PySem.mem_of_lookup e) hh with e' | e'
          · obtain ⟨p, hp, hpy⟩ := List.mem_map.mp e'
            have e3 := ok.ix p hp
            have : p.1 = y := hpy
            rw [this] at e3
            exact hne (List.mem_map.mpr ⟨p, hp, nodup_ix hN e3 e1⟩)
          · exact e' (List.mem_of_getElem? e1)
        rcases r with rfl | ⟨rfl, rfl⟩
        · rcases hk' with rfl | rfl | rfl
          · exact absurd (.inl rfl) no
          · exact absurd (.inr rfl) no
          · exact ⟨e, .inr hk0⟩
        · exact ⟨e, .inl hk0⟩
      have e3 : Vis cenv.scope y := e3
      rcases e3 with e3 | e3 | e3
      · exact key _ e3 (.inl rfl)
      · exact key _ e3 (.inr (.inl rfl))
      · exact key _ e3 (.inr (.inr rfl))
    obtain ⟨m, hn, hl⟩ := I.loc
    have hvis : Vis X.env.scope y := (ok.free _ (PySem.mem_of_lookup hfr.1) rfl).elim (fun k => .inr (.inl k)) (fun k => .inr (.inr k))
    obtain ⟨w, r, q⟩ := hl i y av e1 e2 hvis
    refine ⟨w, r, .inr ⟨hfr.2, ?_⟩⟩
    obtain ⟨c, h1, h2⟩ := look hfr.1
    rcases q with ⟨k, _⟩ | ⟨_, c', e', z⟩
    · have k : X.env.scope.names.lookup y = some .local := k
      rcases ok.free _ (PySem.mem_of_lookup hfr.1) rfl with k' | k' <;> rw [show X.env.scope.names.lookup y = _ from k'] at k <;> cases k
    · rw [h2] at e'; cases e'
      exact ⟨c, h1, z.keeps kp⟩
  · have e : cenv.cells.lookup y = some c := e
    rcases mem e with ⟨h1, _⟩ | ⟨_, z⟩
    · obtain ⟨w, z⟩ := I.cell y c h1
      exact ⟨w, z.keeps kp⟩
    · exact ⟨_, z⟩
  · show H cenv.locals = none
    rw [hL]; exact I.hok.fresh (Nat.le_refl _)
  · have e : cenv.cells.lookup y = some c := e
    rcases mem e with ⟨h1, _⟩ | ⟨h1, _⟩
    · exact I.freeC y c h1
    · exact I.hok.fresh (Nat.le_of_succ_le h1)
  · exact absurd (show p ∈ ([] : List (Addr × Obj)) ++ [] from hp) (by simp)
theorem app_ok {E : Value → Shared → Prop} {D : Addr} {xs : List V} {y : V} {v : Value} {Q : Value → Shared → Prop} (I : Inv X pins σ H s) (hD : H D = some (.lst xs)) (hz : xs.length < sizeLine) (r : RelV y v)
    (h : ∀ s', Inv X pins σ (upd H D (.lst (xs ++ [y]))) s' → Q .none s') : wpAny (model X.prog X.w) X.A (call (.builtin "list.append") [.ref D, v]) Q E s := by
  obtain ⟨hz', its, n, ri, e⟩ := I.hok D _ hD
  have hl := ri.length
  refine append_at (hsz := by rw [List.size_toArray]; omega) e fun h' sb ho' => ?_
  refine h { s with heap := h' } (I.write (t' := s.toks) (by rw [hD]; trivial) (.inl rfl) (fun b u hb q => (sb.2 b hb).trans q) ⟨_, ho'⟩ ⟨by rw [List.length_append]; exact hz, its ++ [v], n + 1, ri.append (.cons r .nil), ?_⟩)
  rw [ho']
  simp
def PTs (X : Cx) (ifs : List Expr) (t : TT) : Prop :=
  ∀ (pins : List (Addr × Obj)) (s : Shared) (σ : St) (H : Hp) (Q : Bool → Hp → Prop), Inv X pins σ H s → t σ H Q →
    wpAny (model X.prog X.w) X.A (forIn ifs true fun c r => if r = true then do let ok ← isTrue c X.env (eval c X.env); pure (ForInStep.yield ok) else pure (ForInStep.yield r)) (TP X pins σ Q) X.xe s
def tYes : TT := fun _ H Q => Q true H
theorem pts_nil : PTs X [] tYes := fun _ _ _ H _ I h => wpAny_tests_nil ⟨H, I, h⟩
theorem pts_one {c : Expr} {t : TT} (h : PT X c t) : PTs X [c] t := fun pins s σ H Q I hw => wpAny_tests_one (h pins s σ H Q I hw)
end
theorem thnF {α : Type} {t : Sem α} {Q Q' : α → Shared → Prop} {M : Model} {A : Around} {E : Value → Shared → Prop} {s : Shared} (h : wpAny M A t Q (fun _ _ => False) s) (hQ : ∀ a s, Q a s → Q' a s) : wpAny M A t Q' E s := wpAny_mono h hQ fun _ _ z => False.elim z
theorem compLoop_any {prog : Program} {w : World} {A : Around} {R : Result → Shared → Prop} {s : Shared} {elt target iter : Expr} {ifs : List Expr} {scope : Scope} {pos : Pos} {it acc : Value} {env : Env} (I : Nat → Shared → Prop)
    (turn : ∀ n s, I n s → wpAny (model prog w) A (pyNext it) (fun r s₁ => match r with
      | none => R (.ok .next) s₁
      | some v => wpAny (model prog w) A (letOwnedTupleGo target it v) (fun _ s₁' => wpAny (model prog w) A (assign target env v) (fun _ s₂ =>
          wpAny (model prog w) A (forIn ifs true fun c r => if r = true then do let ok ← isTrue c env (eval c env); pure (ForInStep.yield ok) else pure (ForInStep.yield r)) (fun ok s₃ =>
            if ok = true then wpAny (model prog w) A (eval elt env) (fun x s₄ =>
              wpAny (model prog w) A (call (.builtin "list.append") [acc, x]) (fun _ s₅ => ∃ m, m < n ∧ I m s₅) (notedBy (model prog w) A env fun e s' => R (.error e) s') s₄) (notedBy (model prog w) A env fun e s' => R (.error e) s') s₃
            else ∃ m, m < n ∧ I m s₃) (notedBy (model prog w) A env fun e s' => R (.error e) s') s₂) (notedBy (model prog w) A env fun e s' => R (.error e) s') s₁') (notedBy (model prog w) A env fun e s' => R (.error e) s') s₁) (notedBy (model prog w) A env fun e s' => R (.error e) s') s)
    (n : Nat) (h : I n s) :
    codeAny (model prog w) A (.compLoop (.ListComp elt [⟨target, iter, ifs, 0⟩] scope pos) 0 it acc env) R s := by
  refine codeAny_loop rfl I (fun n s hI => ?_) n h
  show wpAny _ A ((compTurn (.ListComp elt [⟨target, iter, ifs, 0⟩] scope pos) 0 it acc env).onRaise (fun x => do noteFrame x env; theTreesLotGoes x)) _ _ s
  refine wpAny_noted ?_
  rw [compTurn_list]
  refine wpAny_bind (wpAny_standAt (wpAny_bind (wpAny_mono (turn n s hI) (fun r s₁ h₁ => ?_) fun _ _ h' => h')))
  cases r with
  | none => exact wpAny_pure h₁
  | some v =>
    refine wpAny_bind (wpAny_mono h₁ (fun _ s₁' h₁' => ?_) fun _ _ h' => h')
    refine wpAny_bind (wpAny_mono h₁' (fun _ s₂ h₂ => wpAny_bind (wpAny_mono h₂ (fun ok s₃ h₃ => ?_) fun _ _ h' => h')) fun _ _ h' => h')
    cases ok with
    | false => exact wpAny_pure ⟨rfl, h₃⟩
    | true =>
      exact wpAny_bind (wpAny_bind (wpAny_mono h₃ (fun x s₄ h₄ => wpAny_bind (wpAny_mono h₄ (fun _ s₅ h₅ => wpAny_pure (wpAny_pure ⟨rfl, h₅⟩)) fun _ _ h' => h')) fun _ _ h' => h'))
section
variable {X : Cx}
def tLc (wi : TI) (g : TG) (tt : TT) (te : TE) (vs : List Nat) : TE := fun σ H Q => wi σ H fun J H1 => ∀ D, H1 D = none → ∃ W : Nat → Nat → Hp → Prop, (∃ m, W 0 m (upd H1 D (.lst []))) ∧ ∀ i m H, W i m H →
  (J.stop i H ∧ Q (.ref D) H) ∨ (J.go i H ∧ ∃ Nx : Hp → Prop, (∀ H', Nx H' → ∃ m', m' < m ∧ W (i + 1) m' H') ∧ ∀ x H', J.yld i H x H' → g x (wipe σ vs) H' fun σ2 H2 => wipe σ2 vs = wipe σ vs ∧ tt σ2 H2 fun b H3 =>
    if b = true then te σ2 H3 fun y H4 => ∃ acc, H4 D = some (.lst acc) ∧ acc.length < sizeLine ∧ Nx (upd H4 D (.lst (acc ++ [y]))) else Nx H3)
theorem lc_core {pins : List (Addr × Obj)} {s : Shared} {σ : St} {H : Hp} {Q : VK} {elt tg iter : Expr} {ifs : List Expr} {scope : Scope} {own : List (Str × Nat)} {pos pos' : Pos} {wi : TI} {g : TG} {tt : TT} {te : TE} {use : Option (Value → Sem Unit)} {Qf : Value → Shared → Prop}
    (hc : X.calm = true) (hN : X.N.Nodup) (I : Inv X pins σ H s) (hi : PI X tg iter wi) (ok : BlkOk X.N X.env.scope scope own)
    (hg : ∀ (s : Shared) (H : Hp) (C : Addr) (cl : List (Str × Addr)) (fp : List Addr), PG (X.blk s H scope (compEnvC scope cl C X.env) fp) tg g) (ht : ∀ (s : Shared) (H : Hp) (C : Addr) (cl : List (Str × Addr)) (fp : List Addr), PTs (X.blk s H scope (compEnvC scope cl C X.env) fp) ifs tt)
    (he : ∀ (s : Shared) (H : Hp) (C : Addr) (cl : List (Str × Addr)) (fp : List Addr), PE (X.blk s H scope (compEnvC scope cl C X.env) fp) elt te) (hs : ∀ x, foldedSetIterable iter X.env x = pure x)
    (h : tLc wi g tt te (own.map (·.2)) σ H Q)
    (hRR : ∀ D C s' m H', Inv X pins σ H' s' → Q (.ref D) H' → s'.heap.Ns C m → FpOk X pins H' C → compPost (model X.prog X.w) X.A X.xe use Qf (.ref D) C (.ok .next) s') :
    wpAny (model X.prog X.w) X.A (comprehension (.ListComp elt [⟨tg, iter, ifs, 0⟩] scope pos) scope X.env pos' (newList []) false (eval iter X.env) use) Qf X.xe s := by
  have hfree : ∀ y ∈ scope.names, y.2 = .free → ∃ c, X.env.cells.lookup y.1 = some c := fun y hy e => by
    rcases ok.free y hy e with k | k
    · exact I.ok.has _ (.inl k)
    · exact I.ok.has _ (.inr k)
  refine wpAny_comprehension_free (use := use) rfl hs (closure_ok hfree) ok.kind (fun y hy e => by rw [ok.uniq y hy, e])
    (thn (hi pins s σ H _ I h) fun xv s1 hx => thn hx fun itv s2 h2 => ?_)
  obtain ⟨it, fp, tn, J, H2, e, I2, T, st2, f2, q⟩ := h2
  subst e
  refine wpAny_newObj_type (newEnv_comp ?_) (by show 0 ≤ sizeLine; decide)
  generalize hD : s2.heap.objs.size = D
  have hDn : H2 D = none := I2.hok.fresh (Nat.le_of_eq hD)
  obtain ⟨W, ⟨m0, w0⟩, turn⟩ := q D hDn
  generalize hs3 : ({ s2 with heap := s2.heap.push { cls := .type "list", data := .seq ([] : List Value).toArray } } : Shared) = s3
  have I3 : Inv X pins σ (upd H2 D (.lst [])) s3 := by
    rw [← hs3]
    refine I2.laid (t' := s2.toks) (fun b o e => Heap.get?_push_of_some _ e) (Nat.le_of_eq hD) ⟨Nat.zero_le _, [], 0, .nil, ?_⟩
    rw [← hD]
    exact Heap.get?_push_size _ rfl
  have h3 : s3.heap = s2.heap.push { cls := .type "list", data := .seq ([] : List Value).toArray } := by rw [← hs3]
  have sz : ∀ b ∈ fp, b < s2.heap.objs.size := fun b hb => by
    obtain ⟨o, e, _⟩ := T.obj _ _ st2 b hb
    exact Heap.lt_size e
  have f3 : ∀ b ∈ fp, FpOk X pins (upd H2 D (.lst [])) b ∧ b < s3.heap.objs.size := fun b hb => by
    have hlt := sz b hb
    refine ⟨⟨?_, (f2 b hb).2⟩, by rw [h3, Heap.size_push]; exact Nat.lt_succ_of_lt hlt⟩
    rw [upd_ne (by rw [← hD]; exact Nat.ne_of_lt hlt)]
    exact (f2 b hb).1
  have st3 : tn 0 s3.heap := T.keep _ _ _ st2 fun b _ o e => by rw [h3]; exact Heap.get?_push_of_some _ e
  have I4 := block_start I3 ok hN f3
  have pg := hg s3 (upd H2 D (.lst [])) s3.heap.objs.size (cellsFrom (s3.heap.objs.size + 1) scope.names (cloFrom X.env.cells scope.names [])) fp
  have pt := ht s3 (upd H2 D (.lst [])) s3.heap.objs.size (cellsFrom (s3.heap.objs.size + 1) scope.names (cloFrom X.env.cells scope.names [])) fp
  have pe := he s3 (upd H2 D (.lst [])) s3.heap.objs.size (cellsFrom (s3.heap.objs.size + 1) scope.names (cloFrom X.env.cells scope.names [])) fp
  show codeAny _ _ (.compStart (.ListComp elt [⟨tg, iter, ifs, 0⟩] scope pos) 0 (.ref it) (.ref D) (compEnvC scope (cellsFrom (s3.heap.objs.size + 1) scope.names (cloFrom X.env.cells scope.names [])) s3.heap.objs.size X.env)) (compPost (model X.prog X.w) X.A X.xe use Qf (.ref D) s3.heap.objs.size) { s3 with heap := pushCells (s3.heap.push { cls := .type "dict", data := .dict #[] }) scope.names }
  have nfp : ∀ b ∈ fp, (upd H2 D (.lst [])) b = none := fun b hb => (f3 b hb).1.1
  generalize hce : compEnvC scope (cellsFrom (s3.heap.objs.size + 1) scope.names (cloFrom X.env.cells scope.names [])) s3.heap.objs.size X.env = ce at I4 pg pt pe ⊢
  have cL : ce.locals = s3.heap.objs.size := by subst hce; rfl
  generalize hH3 : upd H2 D (.lst []) = H3 at I3 I4 pg pt pe w0 nfp f3
  generalize hs4 : ({ s3 with heap := pushCells (s3.heap.push { cls := .type "dict", data := .dict #[] }) scope.names } : Shared) = s4 at I4 ⊢
  have st4 : tn 0 s4.heap := T.keep _ _ _ st3 fun b _ o e => by rw [← hs4]; exact pushCells_keeps _ _ _ _ (Heap.get?_push_of_some _ e)
  have stat : ∀ {σ' : St} {H' : Hp} {s' : Shared}, Inv (X.blk s3 H3 scope ce fp) [] σ' H' s' → (∀ b ∈ fp, H' b = none) → ∀ b ∈ fp, FpOk (X.blk s3 H3 scope ce fp) [] H' b := fun {σ' H' s'} I' hn b hb =>
    ⟨hn b hb, (I'.ok.exf b hb).1, I'.ok.exfs b hb, .inl hb, fun x c e => (I'.ok.exf b hb).2 x c e, fun p hp => absurd (show p ∈ ([] : List (Addr × Obj)) ++ [] from hp) (by simp)⟩
  have loop : codeAny (model X.prog X.w) X.A (.compLoop (.ListComp elt [⟨tg, iter, ifs, 0⟩] scope pos) 0 (.ref it) (.ref D) ce) (compPost (model X.prog X.w) X.A X.xe use Qf (.ref D) s3.heap.objs.size) s4 := by
    refine compLoop_any (fun n s' => ∃ i H', Inv (X.blk s3 H3 scope ce fp) [] (wipe σ (own.map (·.2))) H' s' ∧ tn i s'.heap ∧ (∀ b ∈ fp, H' b = none) ∧ W i n H') ?_ m0 ⟨0, H3, I4, st4, nfp, w0⟩
    rintro n s5 ⟨i, H5, I5, st5, n5, w5⟩
    rcases turn i n H5 w5 with ⟨stop, qq⟩ | ⟨go, Nx, hNx, step⟩
    · have td := T.done (X.blk s3 H3 scope ce fp) rfl rfl rfl hc i [] s5 _ H5 (fun _ _ => False) I5 (stat I5 n5) st5 stop
      refine thnF td fun r s6 ⟨hr, I6⟩ => ?_
      subst hr
      have I7 : Inv X pins σ H5 s6 := I3.call' (ch := fp) I6.os I6.base I6.hok I6.bare fun b hb => ⟨(f3 b hb).1.2.2.2.1, (f3 b hb).1.2.1, (f3 b hb).1.2.2.2.2.1, (f3 b hb).1.2.2.2.2.2⟩
      have nC : H5 s3.heap.objs.size = none := by
        have z : H5 ce.locals = none := I6.free
        rw [cL] at z
        exact z
      obtain ⟨m, hn, _⟩ := I6.loc
      have hn : s6.heap.Ns ce.locals m := hn
      rw [cL] at hn
      exact hRR D s3.heap.objs.size s6 m H5 I7 qq hn (I3.fpOk (Nat.le_refl _) nC)
    · have ti := T.item (X.blk s3 H3 scope ce fp) rfl rfl rfl hc i [] s5 _ H5 (fun _ _ => False) I5 (stat I5 n5) st5 go
      refine thnF ti fun r s6 ⟨u, hr, h6⟩ => ?_
      subst hr
      refine thnF h6 fun _ s7 ⟨x, H7, I7, r7, y7, st7, n7⟩ => ?_
      have I7' := I7.pinned (stat I7 n7) (T.obj _ _ st7)
      refine thnF (pg _ s7 _ H7 x u _ I7' r7 (step x H7 y7)) fun _ s8 ⟨σ8, H8, I8, hw8, q8⟩ => ?_
      refine thnF (pt _ s8 σ8 H8 _ I8 q8) fun b s9 ⟨H9, I9, q9⟩ => ?_
      have fin : ∀ {s' : Shared} {H' : Hp}, Inv (X.blk s3 H3 scope ce fp) ([] ++ pinsAt fp s7.heap) σ8 H' s' → Nx H' → ∃ m, m < n ∧ ∃ i H', Inv (X.blk s3 H3 scope ce fp) [] (wipe σ (own.map (·.2))) H' s' ∧ tn i s'.heap ∧ (∀ b ∈ fp, H' b = none) ∧ W i m H' := fun {s' H'} I' nx => by
        obtain ⟨m', hm, w'⟩ := hNx H' nx
        have pin' : ∀ b ∈ fp, ∀ o, s7.heap.get? b = some o → s'.heap.get? b = some o ∧ H' b = none := fun b hb o e =>
          let z := I'.pin (b, o) (List.mem_append_right _ (List.mem_append_right _ (mem_pinsAt hb e)))
          ⟨z.1, z.2.1⟩
        have hl : (wipe σ (own.map (·.2))).length = σ8.length := by rw [← hw8, wipe_length]
        refine ⟨m', hm, i + 1, H', (I'.unpinned (pins := [])).weak hl (fun j v e => ?_), T.keep _ _ _ st7 fun b hb o e => (pin' b hb o e).1, fun b hb => ?_, w'⟩
        · rw [← hw8] at e
          exact (wipe_some e).1
        · obtain ⟨o, e, _⟩ := T.obj _ _ st7 b hb
          exact (pin' b hb o e).2
      cases b with
      | false =>
        simp only [Bool.false_eq_true, if_false] at q9 ⊢
        exact fin I9 q9
      | true =>
        simp only [if_true] at q9 ⊢
        refine thnF (pe _ s9 σ8 H9 _ I9 q9) fun z s10 ⟨yv, H10, I10, r10, acc, hD10, hz10, nx⟩ => ?_
        exact app_ok (X := X.blk s3 H3 scope ce fp) I10 hD10 hz10 r10 fun s11 I11 => fin I11 nx
  exact codeAny_compStart_list loop (T.self X.A 0 _ _ _ st4 loop)
theorem pe_lc {elt tg iter : Expr} {ifs : List Expr} {scope : Scope} {own : List (Str × Nat)} {pos : Pos} {wi : TI} {g : TG} {tt : TT} {te : TE} (hc : X.calm = true) (hN : X.N.Nodup) (hi : PI X tg iter wi) (ok : BlkOk X.N X.env.scope scope own)
    (hg : ∀ (s : Shared) (H : Hp) (C : Addr) (cl : List (Str × Addr)) (fp : List Addr), PG (X.blk s H scope (compEnvC scope cl C X.env) fp) tg g) (ht : ∀ (s : Shared) (H : Hp) (C : Addr) (cl : List (Str × Addr)) (fp : List Addr), PTs (X.blk s H scope (compEnvC scope cl C X.env) fp) ifs tt)
    (he : ∀ (s : Shared) (H : Hp) (C : Addr) (cl : List (Str × Addr)) (fp : List Addr), PE (X.blk s H scope (compEnvC scope cl C X.env) fp) elt te) (hs : ∀ x, foldedSetIterable iter X.env x = pure x := by intro _; rfl) :
    PE X (.ListComp elt [⟨tg, iter, ifs, 0⟩] scope pos) (tLc wi g tt te (own.map (·.2))) := by
  intro pins s σ H Q I h
  rw [eval_ListComp]
  refine lc_core hc hN I hi ok hg ht he hs h fun D C s' m H' I' q hn f => ⟨m, hn, fun h'' sb => ?_⟩
  obtain ⟨f0, f1, f2, f3, f4, f5⟩ := f
  exact ⟨.ref D, H', I'.turned (t' := s'.toks) (fun b o hb e => (sb.2 b hb).trans e) f0 f1 f3 f4 f5, rfl, q⟩
theorem ps_setLc {i : Nat} {y : Str} {py : Pos} {elt tg iter : Expr} {ifs : List Expr} {scope : Scope} {own : List (Str × Nat)} {pos spos : Pos} {wi : TI} {g : TG} {tt : TT} {te : TE} (hc : X.calm = true) (hN : X.N.Nodup) (hy : X.N[i]? = some y) (hyl : X.env.scope.names.lookup y = some .local)
    (hsw : swapsWith (.ListComp elt [⟨tg, iter, ifs, 0⟩] scope pos) (some (.Name y py)) spos.line X.env = pure true) (hi : PI X tg iter wi) (ok : BlkOk X.N X.env.scope scope own)
    (hg : ∀ (s : Shared) (H : Hp) (C : Addr) (cl : List (Str × Addr)) (fp : List Addr), PG (X.blk s H scope (compEnvC scope cl C X.env) fp) tg g) (ht : ∀ (s : Shared) (H : Hp) (C : Addr) (cl : List (Str × Addr)) (fp : List Addr), PTs (X.blk s H scope (compEnvC scope cl C X.env) fp) ifs tt)
    (he : ∀ (s : Shared) (H : Hp) (C : Addr) (cl : List (Str × Addr)) (fp : List Addr), PE (X.blk s H scope (compEnvC scope cl C X.env) fp) elt te) (hs : ∀ x, foldedSetIterable iter X.env x = pure x := by intro _; rfl) :
    PS X (.Assign [.Name y py] (.ListComp elt [⟨tg, iter, ifs, 0⟩] scope pos) spos) (tAsg (tLc wi g tt te (own.map (·.2))) (gName i)) := by
  intro pins s σ H D I h
  rw [exec_Assign_Name_used _ _ _ _ hsw]
  refine wpAny_bind (wpAny_standAt (wpAny_bind ?_))
  show wpAny _ X.A (do let _ ← comprehension (.ListComp elt [⟨tg, iter, ifs, 0⟩] scope pos) scope X.env (firstIterPos [⟨tg, iter, ifs, 0⟩] pos) (newList []) false (eval iter X.env) (some (assign (.Name y py) X.env))) _ _ s
  have h : tLc wi g tt te (own.map (·.2)) σ H (fun x H1 => gName i x σ H1 D.nx) := h
  refine wpAny_bind (thn (lc_core (Qf := fun _ s' => SP X pins D .next s') hc hN I hi ok hg ht he hs h fun L C s' m H' I' q hn f => ?_) fun _ s' hq => wpAny_pure (wpAny_pure hq))
  show wpAny _ _ (assign (.Name y py) X.env (.ref L)) _ _ _
  refine wpAny_assign_Name (store_ok2 (v := V.ref L) I' hN hy (.inl hyl) rfl (fun s2 I2 ⟨a, sb, ha⟩ => ?_) (.inr hyl))
  obtain ⟨f0, f1, f2, f3, f4, f5⟩ := f
  have haC : C ≠ a := by
    rcases ha with z | z
    · rw [z]; exact f1
    · exact fun e => f4 y a z e.symm
  refine ⟨m, hn.sameBut sb haC, fun h3 sb3 => ?_⟩
  exact ⟨_, H', I2.turned (t' := s2.toks) (fun b o hb e => (sb3.2 b hb).trans e) f0 f1 f3 f4 f5, q⟩
theorem sw_true {elt : Expr} {gs : List Comprehension} {scope : Scope} {pos py : Pos} {y : Str} {l : Nat} {env : Env} (hk : env.scope.kind = .function) (hy : env.scope.names.lookup y = some .local) (hl : (py.line == pos.line) = true)
    (ha : (scope.names.any fun (n, k) => n == y && (k == .local || k == .cell)) = false) : swapsWith (.ListComp elt gs scope pos) (some (.Name y py)) l env = pure true := by
  have ky : env.kindOf y = some .local := hy
  have hb : env.blockKind = .function := by unfold Env.blockKind; rw [hk]; rfl
  unfold swapsWith
  simp only [hb, ky, ha, Expr.pos, hl]
  rfl
end
theorem lc_range {lo : Int} {n : Nat} {g : TG} {tt : TT} {te : TE} {vs : List Nat} {σ : St} {H1 : Hp} {D : Addr} {Qd : Hp → Prop} (Pv : Nat → Hp → Prop) (h0 : Pv 0 (upd H1 D (.lst [])))
    (hs : ∀ i H, i < n → Pv i H → g (.int (lo + i)) (wipe σ vs) H fun σ2 H2 => wipe σ2 vs = wipe σ vs ∧ tt σ2 H2 fun b H3 =>
      if b = true then te σ2 H3 fun y H4 => ∃ acc, H4 D = some (.lst acc) ∧ acc.length < sizeLine ∧ Pv (i + 1) (upd H4 D (.lst (acc ++ [y]))) else Pv (i + 1) H3) (hd : ∀ H, Pv n H → Qd H) :
    ∃ W : Nat → Nat → Hp → Prop, (∃ m, W 0 m (upd H1 D (.lst []))) ∧ ∀ i m H, W i m H →
      ((Itr lo n).stop i H ∧ Qd H) ∨ ((Itr lo n).go i H ∧ ∃ Nx : Hp → Prop, (∀ H', Nx H' → ∃ m', m' < m ∧ W (i + 1) m' H') ∧ ∀ x H', (Itr lo n).yld i H x H' → g x (wipe σ vs) H' fun σ2 H2 => wipe σ2 vs = wipe σ vs ∧ tt σ2 H2 fun b H3 =>
        if b = true then te σ2 H3 fun y H4 => ∃ acc, H4 D = some (.lst acc) ∧ acc.length < sizeLine ∧ Nx (upd H4 D (.lst (acc ++ [y]))) else Nx H3) := by
  refine ⟨fun i m H => m = n - i ∧ i ≤ n ∧ Pv i H, ⟨n, by simp, Nat.zero_le _, h0⟩, ?_⟩
  rintro i m H ⟨rfl, hi, p⟩
  by_cases hlt : i < n
  · refine .inr ⟨hlt, Pv (i + 1), fun H' p' => ⟨n - (i + 1), by omega, rfl, hlt, p'⟩, fun x H' y => ?_⟩
    obtain ⟨e, y⟩ := y
    subst e y
    exact hs i _ hlt p
  · have e : i = n := by omega
    subst e
    exact .inl ⟨Nat.le_refl _, hd H p⟩
theorem lc_list {K : PySem.W.Frag} {a : Addr} {xs : List V} {g : TG} {tt : TT} {te : TE} {vs : List Nat} {σ : St} {H1 : Hp} {D : Addr} {Qd : Hp → Prop} (Pv : Nat → Hp → Prop) (h0 : Pv 0 (upd H1 D (.lst []))) (hl : ∀ i H, i ≤ xs.length → Pv i H → SqL K H a xs)
    (hs : ∀ i x H, xs[i]? = some x → Pv i H → g x (wipe σ vs) H fun σ2 H2 => wipe σ2 vs = wipe σ vs ∧ tt σ2 H2 fun b H3 =>
      if b = true then te σ2 H3 fun y H4 => ∃ acc, H4 D = some (.lst acc) ∧ acc.length < sizeLine ∧ Pv (i + 1) (upd H4 D (.lst (acc ++ [y]))) else Pv (i + 1) H3) (hd : ∀ H, Pv xs.length H → Qd H) :
    ∃ W : Nat → Nat → Hp → Prop, (∃ m, W 0 m (upd H1 D (.lst []))) ∧ ∀ i m H, W i m H →
      ((Itl K a).stop i H ∧ Qd H) ∨ ((Itl K a).go i H ∧ ∃ Nx : Hp → Prop, (∀ H', Nx H' → ∃ m', m' < m ∧ W (i + 1) m' H') ∧ ∀ x H', (Itl K a).yld i H x H' → g x (wipe σ vs) H' fun σ2 H2 => wipe σ2 vs = wipe σ vs ∧ tt σ2 H2 fun b H3 =>
        if b = true then te σ2 H3 fun y H4 => ∃ acc, H4 D = some (.lst acc) ∧ acc.length < sizeLine ∧ Nx (upd H4 D (.lst (acc ++ [y]))) else Nx H3) := by
  refine ⟨fun i m H => m = xs.length - i ∧ i ≤ xs.length ∧ Pv i H, ⟨xs.length, by simp, Nat.zero_le _, h0⟩, ?_⟩
  rintro i m H ⟨rfl, hi, p⟩
  have q := hl i H hi p
  by_cases hlt : i < xs.length
  · refine .inr ⟨⟨xs, xs[i], q, by simp [hlt]⟩, Pv (i + 1), fun H' p' => ⟨xs.length - (i + 1), by omega, rfl, hlt, p'⟩, fun x H' y => ?_⟩
    obtain ⟨e, y⟩ := y
    subst e
    exact hs i x _ (y xs q) p
  · have e : i = xs.length := by omega
    subst e
    exact .inl ⟨⟨xs, q, Nat.le_refl _⟩, hd H p⟩
theorem lc_tup {K : PySem.W.Frag} {a : Addr} {xs : List V} {g : TG} {tt : TT} {te : TE} {vs : List Nat} {σ : St} {H1 : Hp} {D : Addr} {Qd : Hp → Prop} (Pv : Nat → Hp → Prop) (h0 : Pv 0 (upd H1 D (.lst []))) (hl : ∀ i H, i ≤ xs.length → Pv i H → SqT K H a xs)
    (hs : ∀ i x H, xs[i]? = some x → Pv i H → g x (wipe σ vs) H fun σ2 H2 => wipe σ2 vs = wipe σ vs ∧ tt σ2 H2 fun b H3 =>
      if b = true then te σ2 H3 fun y H4 => ∃ acc, H4 D = some (.lst acc) ∧ acc.length < sizeLine ∧ Pv (i + 1) (upd H4 D (.lst (acc ++ [y]))) else Pv (i + 1) H3) (hd : ∀ H, Pv xs.length H → Qd H) :
    ∃ W : Nat → Nat → Hp → Prop, (∃ m, W 0 m (upd H1 D (.lst []))) ∧ ∀ i m H, W i m H →
      ((Itt K a).stop i H ∧ Qd H) ∨ ((Itt K a).go i H ∧ ∃ Nx : Hp → Prop, (∀ H', Nx H' → ∃ m', m' < m ∧ W (i + 1) m' H') ∧ ∀ x H', (Itt K a).yld i H x H' → g x (wipe σ vs) H' fun σ2 H2 => wipe σ2 vs = wipe σ vs ∧ tt σ2 H2 fun b H3 =>
        if b = true then te σ2 H3 fun y H4 => ∃ acc, H4 D = some (.lst acc) ∧ acc.length < sizeLine ∧ Nx (upd H4 D (.lst (acc ++ [y]))) else Nx H3) := by
  refine ⟨fun i m H => m = xs.length - i ∧ i ≤ xs.length ∧ Pv i H, ⟨xs.length, by simp, Nat.zero_le _, h0⟩, ?_⟩
  rintro i m H ⟨rfl, hi, p⟩
  have q := hl i H hi p
  by_cases hlt : i < xs.length
  · refine .inr ⟨⟨xs, xs[i], q, by simp [hlt]⟩, Pv (i + 1), fun H' p' => ⟨xs.length - (i + 1), by omega, rfl, hlt, p'⟩, fun x H' y => ?_⟩
    obtain ⟨e, y⟩ := y
    subst e
    exact hs i x _ (y xs q) p
  · have e : i = xs.length := by omega
    subst e
    exact .inl ⟨⟨xs, q, Nat.le_refl _⟩, hd H p⟩
def blkC (N : List Str) (sc scope : Scope) (own : List (Str × Nat)) : Bool :=
  (match scope.kind with | .function => true | _ => false) && (scope.names.all fun y => decide (scope.names.lookup y.1 = some y.2)) && (own.all fun p => decide (N[p.2]? = some p.1)) &&
    (scope.names.all fun y => match y.2 with
      | .free => (match sc.names.lookup y.1 with | some .cell => true | some .free => true | _ => false)
      | .local => decide (y.1 ∈ own.map (·.1)) || decide (y.1 ∉ N)
      | .cell => decide (y.1 ∈ own.map (·.1)) || decide (y.1 ∉ N)
      | _ => true)
theorem blkOk_by {N : List Str} {sc scope : Scope} {own : List (Str × Nat)} (h : blkC N sc scope own = true) : BlkOk N sc scope own := by
  unfold blkC at h
  simp only [Bool.and_eq_true, List.all_eq_true, decide_eq_true_eq] at h
  obtain ⟨⟨⟨h1, h2⟩, h3⟩, h4⟩ := h
  refine ⟨?_, h2, h3, fun y hy e => ?_, fun y hy e => ?_⟩
  · split at h1
    · assumption
    · cases h1
  · have q := h4 y hy
    simp only [e] at q
    split at q <;> first | exact .inl (by assumption) | exact .inr (by assumption) | cases q
  · have q := h4 y hy
    rcases e with e | e <;> (simp only [e, Bool.or_eq_true, decide_eq_true_eq] at q; exact q)
end L2
namespace L2
open PySem PySem.Spec PyProof.Rows
section
variable {prog : Program} {w : World} {A : Around} {R : Result → Shared → Prop} {s : Shared} {elt t0 i0 t1 i1 : Expr} {ifs0 ifs1 : List Expr} {scope : Scope} {pos : Pos} {it acc : Value} {env : Env}
end
section
variable {X : Cx}
end
end L2
namespace L2
open PySem PySem.Spec PyProof.Rows
section
variable {κ : Type} [DecidableEq κ]
end
section
variable {P : Program} {w : World} {H : Hp} {h : Heap} {a : Addr}
end
section
variable {X : Cx} {pins : List (Addr × Obj)} {σ : St} {H : Hp} {s : Shared} {a : Addr} {y v : V} {u r : Value} {o : Option V} {A : Around} {E : Value → Shared → Prop}
end
section
variable {X : Cx} {pins : List (Addr × Obj)} {σ : St} {H : Hp} {s : Shared} {a : Addr} {kvs : List (Key × V)} {k : Key} {u : Value} {A : Around} {E : Value → Shared → Prop}
end
def NoSl (i : Expr) : Prop := ∀ ov iv, subscripted i false ov iv = operate [ov, iv] (getItem ov iv)
theorem subD_of {prog : Program} {w : World} {A : Around} {E : Value → Shared → Prop} {s : Shared} {env : Env} {value slice : Expr} {pos : Pos} {T id : String} {Q : Value → Shared → Prop}
    (hl : typeLookup (.type T) "__getitem__" = pure (some (.builtin id))) (hs : NoSl slice)
    (h : wpAny (model prog w) A (eval value env) (fun o s₁ => wpAny (model prog w) A (eval slice env) (fun i s₂ => s₂.TypeIs o T ∧ wpAny (model prog w) A (getItem o i) Q E s₂) E s₁) E s) :
    wpAny (model prog w) A (eval (.Subscript value slice pos) env) Q E s := by
  refine Subscript_ (wpAny_mono h (fun o s₁ h₁ => wpAny_mono h₁ (fun i s₂ h₂ => ?_) fun _ _ x => x) fun _ _ x => x)
  obtain ⟨hT, h₂⟩ := h₂
  unfold subscriptTail
  refine wpAny_bind ?_
  rw [getitemInPython_of_ne hT.not_modules]
  refine wpAny_bind (wpAny_specialOf hT hl ?_)
  have fin : wpAny (model prog w) A (subscripted slice false o i) (fun r s₃ => wpAny (model prog w) A (letTemporaryGo value o r >>= fun _ => pure r) Q E s₃) E s₂ := by
    rw [hs o i]
    exact wpAny_operating (wpAny_mono h₂ (fun r s₃ h₃ => wpAny_bind (wpAny_letTemporaryGo (wpAny_pure h₃))) fun _ _ x => x)
  first
    | exact wpAny_pure (wpAny_bind fin)
    | exact wpAny_bind (wpAny_pure (wpAny_bind fin))
    | exact wpAny_bind fin
section
variable {X : Cx} {o i e value : Expr} {pos pos' tpos : Pos} {td ty tv : TE}
end
section
variable {X : Cx} {pos : Pos}
end
section
variable {X : Cx} {pins : List (Addr × Obj)} {σ : St} {H : Hp} {s : Shared} {a : Addr} {y d : V} {u r : Value} {o : Option V} {A : Around} {E : Value → Shared → Prop}
end
section
variable {X : Cx} {o e f : Expr} {apos cpos : Pos} {td ty tx : TE}
end
section
variable {X : Cx} {pins : List (Addr × Obj)} {σ : St} {H : Hp} {s : Shared} {a : Addr} {kvs : List (Key × V)} {A : Around} {E : Value → Shared → Prop}
end
section
variable {X : Cx} {pins : List (Addr × Obj)} {σ : St} {H : Hp} {s : Shared} {a : Addr} {y : V} {u : Value} {A : Around} {E : Value → Shared → Prop}
end
end L2
namespace L2
open PySem PySem.Spec PyProof.Rows
section
variable {prog : Program} {w : World} {A : Around} {E : Value → Shared → Prop}
end
section
variable {X : Cx}
end
end L2
namespace L2
open PySem PySem.Spec PyProof.Rows
theorem boot_reversed5 : bootBuiltins "reversed" = some (.type "reversed") := by decide +kernel
section
variable {X : Cx} {pins : List (Addr × Obj)} {σ : St} {H : Hp} {s : Shared} {h' : Heap}
theorem Inv.turnedNew {t' : Nat} {ch : List Addr} {T : Addr} {ob : HO} (I : Inv X pins σ H s) (k : ∀ b o, b ∉ ch → s.heap.get? b = some o → h'.get? b = some o) (hf : ∀ b ∈ ch, FpOk X pins H b) (hT : s.heap.objs.size ≤ T)
    (new : ObjOk X.prog X.w (upd H T ob) h' T ob) : Inv X pins σ (upd H T ob) { s with heap := h', toks := t' } := by
  have hn : H T = none := I.hok.fresh hT
  have nit : ∀ b u, H b = some u → b ∉ ch := fun b u e z => by
    have q := (hf b z).1
    rw [q] at e; cases e
  refine I.step (g' := s.gens) (d' := s.drawn) (ch := ch) (fun b hb => ⟨(hf b hb).2.2.2.1, (hf b hb).2.1, (hf b hb).2.2.2.2.1, (hf b hb).2.2.2.2.2⟩) (fun b o _ _ hc e _ => k b o hc e) (fun b o _ _ hc e _ => ⟨o.slots, k b o hc e⟩)
    (fun b o _ e n => ?_) (fun b o hc e => ⟨o, k b o hc e⟩) (fun b xs e => ?_) (fun b o u e => ?_) (fun b ps e => ⟨#[], ?_⟩) (fun m hm => ?_) (fun b u e => ?_) I.bare
  · rw [upd_ne (Nat.ne_of_lt (Nat.lt_of_lt_of_le (Heap.lt_size e) hT))]; exact n
  · rw [upd_ne (ne_of_none e hn)]; exact e
  · rw [upd_ne (ne_of_none e hn)]; exact e
  · rw [upd_ne (ne_of_none e hn), e]; simp
  · obtain ⟨o, es, ep, ho, r⟩ := hm
    exact ⟨o, es, ep, k _ o (fun z => (hf _ z).2.1 rfl) ho, r⟩
  · by_cases hb : b = T
    · subst hb
      rw [upd_same] at e
      cases e
      exact new
    · rw [upd_ne hb] at e
      refine (I.hok b u e).stay (fun c v hc q => k c v ?_ q) (fun c q => by rw [upd_ne (ne_of_none q hn)]; exact q) fun c xs q => by rw [upd_ne (ne_of_none q hn)]; exact q
      rcases hc with z | z
      · rw [z]; exact nit b u e
      · exact nit c _ z
end
section
variable {X : Cx}
theorem pi_one {tg : Expr} {pins : List (Addr × Obj)} {σ : St} {H : Hp} {s : Shared} {R : It → Hp → Prop} {J : It} {tn : Nat → Heap → Prop} {tk : Nat} (I : Inv X pins σ H s) (o : Obj)
    (T : Turn X.prog X.w X.K tg J [s.heap.objs.size] s.heap.objs.size tn) (st : tn 0 (s.heap.push o)) (q : R J H) : PIE X pins σ tg R (.ref s.heap.objs.size) { s with heap := s.heap.push o, toks := tk } := by
  refine ⟨s.heap.objs.size, [s.heap.objs.size], tn, J, H, rfl, I.kept fun b ob e => Heap.get?_push_of_some _ e, T, st, fun b hb => ?_, q⟩
  have e : b = s.heap.objs.size := by simpa using hb
  subst e
  exact I.fpOk (Nat.le_refl _) (I.hok.fresh (Nat.le_refl _))
end
def Itc (lo c : Int) (n : Nat) : It := ⟨fun i _ => i < n, fun i H x H' => H' = H ∧ x = .int (lo + (i : Nat) * c), fun i _ => n ≤ i⟩
theorem turn_rangeC {P : Program} {w : World} {K : PySem.W.Frag} {tg : Expr} (it : Addr) (lo c : Int) (n : Nat) : Turn P w K tg (Itc lo c n) [it] it (fun i h => IsRangeIter h it (lo + (i : Nat) * c) ((n : Int) - (i : Nat)) c) where
  mem := by simp
  obj := fun i h st b hb => by
    have e : b = it := by simpa using hb
    subst e
    exact ⟨_, st, fun v z => nomatch z⟩
  keep := fun i h h' st k => k it (by simp) _ st
  item := by
    intro X hP hw hK hc i pins s σ H E I hf st hg
    subst hP hw hK
    obtain ⟨f0, f1, f2, f3, f4, f5⟩ := hf it (by simp)
    have W := Walks.range (prog := X.prog) (w := X.w) (I.ok.hd hc) it lo c n
    refine W.item i s _ _ hg st fun v h' tk hv st' kk => ?_
    obtain ⟨t, rfl⟩ := hv
    have I1 : Inv X pins σ H { s with heap := h', toks := tk } := I.turned (fun b o hb e => kk b o (by simpa using hb) e) f0 f1 f3 f4 f5
    exact ⟨_, rfl, go_of (s := { s with heap := h', toks := tk }) (n := "range_iterator") st' rfl rfl (by decide) ⟨.int (lo + (i : Nat) * c), H, I1, ⟨t, rfl⟩, ⟨rfl, rfl⟩, st', fun b hb => (hf b hb).1⟩⟩
  done := by
    intro X hP hw hK hc i pins s σ H E I hf st hg
    subst hP hw hK
    obtain ⟨f0, f1, f2, f3, f4, f5⟩ := hf it (by simp)
    exact wpAny_pyNext_range_end (I.ok.hd hc) st (by have : n ≤ i := hg; omega) fun h' eb => ⟨rfl, I.turned (t' := s.toks) (fun b o hb e => eb b o hb e) f0 f1 f3 f4 f5⟩
  self := fun A i s Q E st h => wpAny_pyIter_rangeiter st h
def RgC (i j c : Int) (n : Nat) : Prop := c ≠ 0 ∧ c.natAbs < 1073741824 ∧ Builtin.Range.small i j c = true ∧ Builtin.Range.rangeSize i j c = n
theorem RgC.neg {i j : Int} (ha : -(2 ^ 62) ≤ i) (ha' : i < 2 ^ 62) (hb : -(2 ^ 62) ≤ j) (hb' : j < 2 ^ 62) : RgC i j (-1) (i - j).toNat :=
  ⟨by decide, by decide, PySem.W.small_down ha ha' hb hb', PySem.W.rangeSize_downNat i j⟩
def iRng3 (ta : TA) : TI := fun σ H R => ta σ H fun vs H1 => ∃ (i j c : Int) (n : Nat), vs = [.int i, .int j, .int c] ∧ RgC i j c n ∧ R (Itc i c n) H1
section
variable {X : Cx} {tg : Expr}
theorem pi_range3 {a b c : Expr} {ta : TA} {p pos : Pos} (hg : Gl X "range") (hm : X.mg "range" = none) (ha : PA X [a, b, c] ta)
    (hs : starEach [a, b, c] X.env = (false, eval a X.env) :: starEach [b, c] X.env := by rfl) (hpl : (backTo pos (starEach [b, c] X.env)).any (·.1) = false := by rfl) :
    PI X tg (.Call (.Name "range" p) [a, b, c] [] pos) (iRng3 ta) := by
  intro pins s σ H R I h
  refine Call_ (ld_blt I hg hm boot_range (PyProof.Rows.callWith_type1 (thn (ha pos pins s σ H _ I h) fun us s1 ⟨vs, H1, I1, r1, q1⟩ => ?_) hs hpl))
  obtain ⟨i, j, k, n, e, ⟨c0, c1, c2, c3⟩, q⟩ := q1
  subst e
  cases r1 with
  | cons r rr =>
    cases rr with
    | cons r' rr =>
      cases rr with
      | cons r'' rr =>
        cases rr
        obtain ⟨t, rfl⟩ := r
        obtain ⟨t', rfl⟩ := r'
        obtain ⟨t'', rfl⟩ := r''
        refine call_range_3 c0 ?_ (.inl (PyProof.noPylong_small c1))
        refine wpAny_pyIter_range (IsRange.new ..) c2 ?_
        have I2 : Inv X pins σ H1 { s1 with heap := s1.heap.push { cls := .type "range", data := .fields #[.int i t, .int j t', .int k t''] } } := I1.kept (t' := s1.toks) fun b o e => Heap.get?_push_of_some _ e
        refine pi_one (tk := s1.toks) I2 _ (turn_rangeC _ i k n) ?_ q
        have e1 : i + ((0 : Nat) : Int) * k = i := by simp
        have e2 : (n : Int) - ((0 : Nat) : Int) = Builtin.Range.rangeSize i j k := by rw [c3]; simp
        show IsRangeIter _ _ (i + ((0 : Nat) : Int) * k) ((n : Int) - ((0 : Nat) : Int)) k
        rw [e1, e2]
        exact Heap.get?_push_size _ rfl
end
theorem for_rangeC {lo c : Int} {n : Nat} {g : TG} {tb : TS} {D : Ends} {σ : St} {H : Hp} (Pv : Nat → St → Hp → Prop) (h0 : Pv 0 σ H)
    (hs : ∀ i σ H, i < n → Pv i σ H → g (.int (lo + (i : Nat) * c)) σ H fun σ2 H2 => tb { D with nx := Pv (i + 1), ct := Pv (i + 1), bk := D.nx } σ2 H2) (hd : ∀ σ H, Pv n σ H → D.nx σ H) :
    ∃ W : Nat → Nat → St → Hp → Prop, (∃ m, W 0 m σ H) ∧ ∀ i m σ H, W i m σ H →
      ((Itc lo c n).stop i H ∧ D.nx σ H) ∨ ((Itc lo c n).go i H ∧ ∃ N : St → Hp → Prop, (∀ σ' H', N σ' H' → ∃ m', m' < m ∧ W (i + 1) m' σ' H') ∧ ∀ x H', (Itc lo c n).yld i H x H' → g x σ H' fun σ2 H2 => tb { D with nx := N, ct := N, bk := D.nx } σ2 H2) := by
  refine ⟨fun i m σ H => m = n - i ∧ i ≤ n ∧ Pv i σ H, ⟨n, by simp, Nat.zero_le _, h0⟩, ?_⟩
  rintro i m σ H ⟨rfl, hi, p⟩
  by_cases hlt : i < n
  · refine .inr ⟨hlt, Pv (i + 1), fun σ' H' p' => ⟨n - (i + 1), by omega, rfl, hlt, p'⟩, fun x H' y => ?_⟩
    obtain ⟨e, y⟩ := y
    subst e y
    exact hs i σ _ hlt p
  · have e : i = n := by omega
    subst e
    exact .inl ⟨Nat.le_refl _, hd σ H p⟩
def Itv (K : PySem.W.Frag) (a : Addr) (n : Nat) : It :=
  ⟨fun i H => i < n ∧ ∃ (xs : List V) (x : V), SqL K H a xs ∧ xs[n - 1 - i]? = some x, fun i H x H' => H' = H ∧ ∀ xs, SqL K H a xs → xs[n - 1 - i]? = some x, fun i _ => n ≤ i⟩
theorem turn_rev {P : Program} {w : World} {K : PySem.W.Frag} {tg : Expr} (a it : Addr) (n : Nat) : Turn P w K tg (Itv K a n) [it] it (fun i h => i ≤ n ∧ h.IsRevIter it a ((n : Int) - 1 - (i : Nat))) where
  mem := by simp
  obj := fun i h st b hb => by
    have e : b = it := by simpa using hb
    subst e
    obtain ⟨_, o, e, c, d⟩ := st
    exact ⟨o, e, fun v z => by rw [d] at z; cases z⟩
  keep := fun i h h' st k => ⟨st.1, st.2.at fun o e => k it (by simp) o e⟩
  item := by
    intro X hP hw hK hc i pins s σ H E I hf st hg
    subst hP hw hK
    obtain ⟨hin, xs, x, hq, hx⟩ := hg
    obtain ⟨its, rv, p, hz⟩ := I.list hq
    obtain ⟨u, hu, ru⟩ := rv.get hx
    obtain ⟨f0, f1, f2, f3, f4, f5⟩ := hf it (by simp)
    obtain ⟨_, hit⟩ := st
    have e1 : (n : Int) - 1 - ((i : Nat) : Int) = ((n - 1 - i : Nat) : Int) := by omega
    rw [e1] at hit
    refine wpAny_pyNext_rev_item hit p.isList (x := u) (by simpa using hu) fun h' st' sb => ?_
    have e2 : ((n - 1 - i : Nat) : Int) - 1 = (n : Int) - 1 - ((i + 1 : Nat) : Int) := by omega
    rw [e2] at st'
    have I1 : Inv X pins σ H { s with heap := h' } := I.turned (t' := s.toks) (fun b o hb e => (sb.2 b hb).trans e) f0 f1 f3 f4 f5
    obtain ⟨o, e, c, d⟩ := id st'
    exact ⟨u, rfl, go_of (s := { s with heap := h' }) e c d (by decide) ⟨x, H, I1, ru, ⟨rfl, fun ys hy => by rw [I.list_inj hy hq]; exact hx⟩, ⟨hin, st'⟩, fun b hb => (hf b hb).1⟩⟩
  done := by
    intro X hP hw hK hc i pins s σ H E I hf st hg
    subst hP hw hK
    obtain ⟨f0, f1, f2, f3, f4, f5⟩ := hf it (by simp)
    obtain ⟨hin, hit⟩ := st
    have hge : n ≤ i := hg
    have e1 : (n : Int) - 1 - ((i : Nat) : Int) = -1 := by omega
    rw [e1] at hit
    exact wpAny_pyNext_rev_end (I.ok.hd hc) hit fun h' eb => ⟨rfl, I.turned (t' := s.toks) (fun b o hb e => eb b o hb e) f0 f1 f3 f4 f5⟩
  self := fun A i s Q E st h => wpAny_pyIter_revIter st.2 h
def iRev (K : PySem.W.Frag) (ta : TA) : TI := fun σ H R => ta σ H fun vs H1 => ∃ (a : Addr) (xs : List V), vs = [.ref a] ∧ SqL K H1 a xs ∧ R (Itv K a xs.length) H1
section
variable {X : Cx} {tg : Expr}
theorem pi_reversed {e : Expr} {ta : TA} {p pos : Pos} (hg : Gl X "reversed") (hm : X.mg "reversed" = none) (ha : PA X [e] ta) (hs : starEach [e] X.env = [(false, eval e X.env)] := by rfl) : PI X tg (.Call (.Name "reversed" p) [e] [] pos) (iRev X.K ta) := by
  intro pins s σ H R I h
  refine Call_ (ld_blt I hg hm boot_reversed5 (PyProof.Rows.callWith_type1 (thn (ha pos pins s σ H _ I h) fun us s1 ⟨vs, H1, I1, r1, q1⟩ => ?_) hs rfl))
  obtain ⟨a, xs, e, hq, q⟩ := q1
  subst e
  cases r1 with
  | cons r rr =>
    cases rr
    cases r
    obtain ⟨its, rv, p', hz⟩ := I1.list hq
    have hl := rv.length
    have e1 : ((its.toArray.size : Nat) : Int) - 1 = (xs.length : Int) - 1 - ((0 : Nat) : Int) := by simp only [List.size_toArray]; omega
    refine call_reversed_list p'.isList (wpAny_pyIter_revIter (l := a) (i := ((its.toArray.size : Nat) : Int) - 1) ⟨_, Heap.get?_push_size _ rfl, rfl, rfl⟩ ?_)
    refine pi_one (tk := s1.toks) I1 _ (turn_rev a _ xs.length) ⟨Nat.zero_le _, ?_⟩ q
    rw [← e1]
    exact ⟨_, Heap.get?_push_size _ rfl, rfl, rfl⟩
end
section
variable {prog : Program} {w : World} {A : Around} {E : Value → Shared → Prop} {s : Shared}
end
section
variable {X : Cx} {pins : List (Addr × Obj)} {σ : St} {H : Hp} {s : Shared} {d : Addr} {o : Obj}
end
section
variable {P : Program} {w : World} {K : PySem.W.Frag} {tg : Expr} {d : Addr} {o : Obj} {es : Array DictEntry} {ep : Nat}
end
section
variable {X : Cx} {tg e : Expr} {td : TE} {apos cpos : Pos}
end
def Ite (K : PySem.W.Frag) (a : Addr) : It :=
  ⟨fun i H => ∃ (xs : List V) (x : V), SqL K H a xs ∧ xs[i]? = some x, fun i H v H' => ∃ T x, v = .ref T ∧ H T = none ∧ H' = upd H T (.tup [.int (i : Nat), x]) ∧ ∀ xs, SqL K H a xs → xs[i]? = some x, fun i H => ∃ xs : List V, SqL K H a xs ∧ xs.length ≤ i⟩
theorem turn_enum {P : Program} {w : World} {K : PySem.W.Frag} {elts : List Expr} {kk : Nat} {tpos : Pos} (a e it : Addr) :
    Turn P w K (.Tuple elts kk tpos) (Ite K a) [e, it] e (fun i h => (∃ old, IsEnum h e it ((i : Nat) : Int) old) ∧ h.IsListIter it a i ∧ e ≠ it) where
  mem := by simp
  obj := fun i h st b hb => by
    obtain ⟨⟨old, he⟩, ⟨o, ho, hc, hd⟩, _⟩ := st
    have e' : b = e ∨ b = it := by simpa using hb
    rcases e' with z | z
    · rw [z]; exact ⟨_, he, fun v q => nomatch q⟩
    · rw [z]; exact ⟨o, ho, fun v q => by rw [hd] at q; cases q⟩
  keep := fun i h h' st k => let ⟨⟨old, he⟩, hi, hne⟩ := st; ⟨⟨old, k e (by simp) _ he⟩, hi.at fun o q => k it (by simp) o q, hne⟩
  item := by
    intro X hP hw hK hc i pins s σ H E I hf st hg
    subst hP hw hK
    obtain ⟨⟨old, he⟩, hit, hne⟩ := st
    obtain ⟨xs, x, hq, hx⟩ := hg
    obtain ⟨its, rv, p, hz⟩ := I.list hq
    obtain ⟨u, hu, ru⟩ := rv.get hx
    have hel : e < s.heap.objs.size := Heap.lt_size he
    have hil : it < s.heap.objs.size := by obtain ⟨_, q, _⟩ := hit; exact Heap.lt_size q
    refine wpAny_pyNext_enum_item he hit p.isList (x := u) (by simpa using hu) hne fun h' ho hit' hT hsz hk => ?_
    refine ⟨_, rfl, wpAny_letOwnedTupleGo_enum (s := { s with heap := h', toks := s.toks + 1 }) ho fun h'' he' sb => ?_⟩
    have hT2 : h''.get? s.heap.objs.size = some { cls := .type "tuple", data := .seq #[.int i s.toks, u] } := (sb.2 _ (Nat.ne_of_gt hel)).trans hT
    have new : ObjOk X.prog X.w (upd H s.heap.objs.size (.tup [.int (i : Nat), x])) h'' s.heap.objs.size (.tup [.int (i : Nat), x]) :=
      ⟨by show 2 ≤ sizeLine; decide, [.int i s.toks, u], .cons ⟨_, rfl⟩ (.cons ru .nil), ⟨_, hT2, rfl, _, rfl⟩⟩
    have I1 : Inv X pins σ (upd H s.heap.objs.size (.tup [.int (i : Nat), x])) { s with heap := h'', toks := s.toks + 1 } :=
      I.turnedNew (ch := [e, it]) (fun b ob hb q => (sb.2 b (fun z => hb (by simp [z]))).trans (hk b ob (fun z => hb (by simp [z])) (fun z => hb (by simp [z])) q)) hf (Nat.le_refl _) new
    refine ⟨.ref s.heap.objs.size, _, I1, rfl, ⟨_, x, rfl, I.hok.fresh (Nat.le_refl _), rfl, fun ys hy => by rw [I.list_inj hy hq]; exact hx⟩, ⟨⟨u, ?_⟩, hit'.at fun o q => (sb.2 it (Ne.symm hne)).trans q, hne⟩, fun b hb => ?_⟩
    · have e1 : ((i + 1 : Nat) : Int) = (i : Int) + 1 := by omega
      rw [e1]; exact he'
    · have hb' : b < s.heap.objs.size := by
        have e' : b = e ∨ b = it := by simpa using hb
        rcases e' with z | z
        · rw [z]; exact hel
        · rw [z]; exact hil
      rw [upd_ne (Nat.ne_of_lt hb')]
      exact (hf b hb).1
  done := by
    intro X hP hw hK hc i pins s σ H E I hf st hg
    subst hP hw hK
    obtain ⟨⟨old, he⟩, hit, hne⟩ := st
    obtain ⟨xs, hq, hx⟩ := hg
    obtain ⟨its, rv, p, hz⟩ := I.list hq
    obtain ⟨f0, f1, f2, f3, f4, f5⟩ := hf it (by simp)
    have hl := rv.length
    exact wpAny_pyNext_enum_end (I.ok.hd hc) he hit p.isList (by simp; omega) fun h' eb => ⟨rfl, I.turned (t' := s.toks) (fun b o hb q => eb b o hb q) f0 f1 f3 f4 f5⟩
  self := fun A i s Q E st h => let ⟨⟨_, he⟩, _⟩ := st; wpAny_pyIter_enum he h
def iEnum (K : PySem.W.Frag) (ta : TA) : TI := fun σ H R => ta σ H fun vs H1 => ∃ a xs, vs = [.ref a] ∧ SqL K H1 a xs ∧ R (Ite K a) H1
theorem pi_enum {X : Cx} {e : Expr} {ta : TA} {p pos tpos : Pos} {elts : List Expr} {kk : Nat} (hg : Gl X "enumerate") (hm : X.mg "enumerate" = none) (ha : PA X [e] ta) (hs : starEach [e] X.env = [(false, eval e X.env)] := by rfl) :
    PI X (.Tuple elts kk tpos) (.Call (.Name "enumerate" p) [e] [] pos) (iEnum X.K ta) := by
  intro pins s σ H R I h
  refine Call_ (ld_blt I hg hm boot_enumerate (PyProof.Rows.callWith_type1 (thn (ha pos pins s σ H _ I h) fun us s1 ⟨vs, H1, I1, r1, q1⟩ => ?_) hs rfl))
  obtain ⟨a, xs, ex, hq, q⟩ := q1
  subst ex
  cases r1 with
  | cons r rr =>
    cases rr
    cases r
    obtain ⟨its, rv, p', hz⟩ := I1.list hq
    refine call_enumerate_list p'.isList fun h' he hit hsz hk => wpAny_pyIter_enum he ?_
    have I2 : Inv X pins σ H1 { s1 with heap := h' } := I1.kept (t' := s1.toks) hk
    refine ⟨s1.heap.objs.size + 1, [s1.heap.objs.size + 1, s1.heap.objs.size], _, _, H1, rfl, I2, turn_enum a (s1.heap.objs.size + 1) s1.heap.objs.size, ⟨⟨.none, he⟩, hit, Nat.succ_ne_self _⟩, fun b hb => ?_, q⟩
    have e' : b = s1.heap.objs.size + 1 ∨ b = s1.heap.objs.size := by simpa using hb
    have hle : s1.heap.objs.size ≤ b := by
      rcases e' with z | z
      · rw [z]; exact Nat.le_add_right _ _
      · rw [z]; exact Nat.le_refl _
    exact I1.fpOk hle (I1.hok.fresh hle)
end L2
section 
namespace Bits
open PySem PyProof.Rows
end Bits
end 
section 
namespace TL
open PySem PySem.Builtin PySem.Builtin.Str PySem.StrLaws
end TL
end 
namespace L2
open PySem PySem.Spec PyProof.Rows
section
variable {X : Cx} {pins : List (Addr × Obj)} {σ : St} {H : Hp} {s : Shared} {Q : VK}
end
section
variable {X : Cx}
end
section
variable {X : Cx} {o e : Expr} {to te : TE}
end
end L2
namespace L2
open PySem PySem.Spec PyProof.Rows
section
variable {X : Cx}
end
end L2
namespace Att
open PySem PySem.W PySem.Calls PyProof.Rows
section
variable {prog : Program} {w : World} {A : Around} {E : Value → Shared → Prop} {s : Shared} {K : Frag}
end
end Att
namespace L2
open PySem PySem.Spec PyProof.Rows
end L2
namespace L2
open PySem PySem.Spec PyProof.Rows
end L2
namespace L2
open PySem PySem.Spec PyProof.Rows
def inClass (s : Stmt) (j : Nat) : Stmt := match s with
  | .ClassDef _ _ _ body _ _ _ _ _ _ _ => body.getD j (.Pass ⟨0, 0, 0, 0⟩)
  | _ => .Pass ⟨0, 0, 0, 0⟩
def defArgs (s : Stmt) : Arguments := match s with
  | .FunctionDef _ a _ _ _ _ _ _ _ _ => a
  | _ => { posonlyargs := [], args := [], vararg := none, kwonlyargs := [], kw_defaults := [], kwarg := none, defaults := [] }
def defBody (s : Stmt) : List Stmt := match s with
  | .FunctionDef _ _ b _ _ _ _ _ _ _ => b
  | _ => []
def defScope (s : Stmt) : Scope := match s with
  | .FunctionDef _ _ _ _ _ _ sc _ _ _ => sc
  | _ => { kind := .function, names := [], isGenerator := false, isCoroutine := false }
abbrev CX0 : CXT := fun _ _ _ _ _ _ => False
abbrev E0 : XK := fun _ _ _ => False
theorem pass0 {X : Cx} : Passes CX0 X E0 := fun _ _ _ _ _ _ _ h => h.elim
structure Fun (K : PySem.W.Frag) (x qual : Str) (st : Stmt) (f : Addr) (fd : FuncData) : Prop where
  ex : ∃ (oc : Value) (od : Option Addr) (kV doc pm : Value) (an : Option Addr) (cdv ct : Value) (osl : Array (Option Value)),
    fd = PySem.W.fnOf x qual (defArgs st) (defBody st) (defScope st) .none kV doc pm an cdv ct ∧ K.lookup f = some ⟨oc, od, .func fd, osl⟩ ∧ PySem.W.codeIn K cdv qual = true
  kp : PySem.W.keepIn K (.ref f) = true
section
variable {P : Program} {w : World} {K : PySem.W.Frag} {mg : Str → Option Value} {base : Heap}
theorem Fun.ok {x qual : Str} {st : Stmt} {f : Addr} {fd : FuncData} {N ps : List Str} {k : Nat} {sp : Sp} (F : Fun K x qual st f fd) (S : FnScope N ps (defScope st)) (len : ∀ vs H Q E, sp vs H Q E → vs.length = ps.length)
    (hbody : ∀ (cdv : Value) (A : Around) (outer : List Env) (s : Shared) (H : Hp) (vs : List V) (Q : VK) (E : XK), Room k (A.deeper (envOfC qual (defScope st) s.heap.objs.size f cdv)) → sp vs H Q E →
      ∃ t, PSs (cxOf CX0 P w K mg base N qual (defScope st) f cdv A outer s H E).nox (defBody st) t ∧ t { nx := fun _ H' => Q .non H', rt := Q } (start N vs) H) : FnOk P w K mg base CX0 (k + 1) f fd ps sp := by
  obtain ⟨oc, od, kV, doc, pm, an, cdv, ct, osl, rfl, lk, hcd⟩ := F.ex
  refine fn_of lk hcd S len fun A outer s H vs Q E hr hsp => ?_
  obtain ⟨t, h, q⟩ := hbody cdv A outer s H vs Q E hr hsp
  exact ⟨t, h.nox, q⟩
theorem Fun.binds {x qual : Str} {st : Stmt} {f : Addr} {fd : FuncData} {ps : List Str} (F : Fun K x qual st f fd)
    (h : ∀ (kV doc pm : Value) (an : Option Addr) (cdv ct : Value) (us : List Value), us.length = ps.length → bindArgs (PySem.W.fnOf x qual (defArgs st) (defBody st) (defScope st) .none kV doc pm an cdv ct) ⟨us, []⟩ = pure (ps.zip us)) : Binds K fd ps [] := by
  obtain ⟨oc, od, kV, doc, pm, an, cdv, ct, osl, rfl, lk, hcd⟩ := F.ex
  exact .all (h kV doc pm an cdv ct)
theorem fun_mk {x qual : Str} {st : Stmt} {f : Addr} {oc : Value} {od an : Option Addr} {osl : Array (Option Value)} {kV doc pm cdv ct : Value} (l : K.lookup f = some ⟨oc, od, .func (PySem.W.fnOf x qual (defArgs st) (defBody st) (defScope st) .none kV doc pm an cdv ct), osl⟩)
    (c : PySem.W.codeIn K cdv qual = true) (k : PySem.W.keepIn K (.ref f) = true) : Fun K x qual st f (PySem.W.fnOf x qual (defArgs st) (defBody st) (defScope st) .none kV doc pm an cdv ct) := ⟨⟨oc, od, kV, doc, pm, an, cdv, ct, osl, rfl, l, c⟩, k⟩
end
section
variable {X : Cx}
theorem pv (i : Nat) {x : Str} {pos : Pos} (hN : X.N[i]? = some x := by rfl) (hv : Vis X.env.scope x := by first | exact Or.inl rfl | exact Or.inr (Or.inl rfl) | exact Or.inr (Or.inr rfl)) (hd : (x == ("__debug__" : Str)) = false := by decide)
    (hcd : (x == ("__classdict__" : Str)) = false := by decide) : PE X (.Name x pos) (tVar i) := pe_var hN hv hd hcd
end
theorem iteF {A B : Prop} (h : B) : if false = true then A else B := by
  rw [if_neg Bool.false_ne_true]
  exact h
theorem iteT {A B : Prop} (h : A) : if true = true then A else B := by
  rw [if_pos rfl]
  exact h
theorem ite2 {c A B : Prop} [Decidable c] (h1 : c → A) (h2 : ¬ c → B) : if c then A else B := by
  by_cases h : c
  · rw [if_pos h]
    exact h1 h
  · rw [if_neg h]
    exact h2 h
def Same (H H' : Hp) : Prop := ∀ b o, H b = some o → H' b = some o
theorem Same.refl (H : Hp) : Same H H := fun _ _ h => h
theorem Same.trans {H H1 H2 : Hp} (a : Same H H1) (b : Same H1 H2) : Same H H2 := fun c o h => b c o (a c o h)
theorem Same.free {H H' : Hp} (e : Same H H') {l : Addr} (h : H' l = Option.none) : H l = Option.none := by
  cases q : H l with
  | none => rfl
  | some o =>
    rw [e l o q] at h
    cases h
theorem Same.seq {K : PySem.W.Frag} {H H' : Hp} {a : Addr} {xs : List V} (e : Same H H') (h : SqL K H a xs) : SqL K H' a xs := by
  rcases h with (h | ⟨o, h⟩) | h
  · exact .inl (.inl (e _ _ h))
  · exact .inl (.inr ⟨o, e _ _ h⟩)
  · exact .inr h
section
variable {κ : Type} [DecidableEq κ]
end
theorem at_of {xs : List V} {z : Int} {j : Nat} {v : V} (e : z = (j : Int)) (h : xs[j]? = some v) : atI xs z = some v := by
  rw [e]
  exact atI_nat h
theorem nd_ix {α : Type} {l : List α} (hN : l.Nodup) {i j : Nat} {x : α} (a : l[i]? = some x) (b : l[j]? = some x) : i = j := by
  obtain ⟨h1, e1⟩ := List.getElem?_eq_some_iff.mp a
  obtain ⟨h2, e2⟩ := List.getElem?_eq_some_iff.mp b
  exact (List.getElem_inj hN).mp (e1.trans e2.symm)
theorem Same.made {H H1 : Hp} {x dx C : Addr} (nx : H x = Option.none) (nd : H dx = Option.none) (k : ∀ b o, (upd (upd H dx (.own x)) x (.ins C dx [])) b = some o → b ≠ x → H1 b = some o) : Same H H1 := fun b o e =>
  k b o (by rw [upd_ne (ne_of_none e nx), upd_ne (ne_of_none e nd)]; exact e) (ne_of_none e nx)
end L2
end

section
set_option Elab.async false
set_option linter.all false
set_option maxRecDepth 100000
set_option maxHeartbeats 2000000
namespace L2
open PySem PySem.Spec PyProof.Rows
open PySem.W (WData Codec OpenSpec Well WellAll ReadsW ReadsAllW)
mutual
inductive Dw (K : PySem.W.Frag) (H : Hp) : V → WData → Prop
  | non : Dw K H .non .none
  | bl (b : Bool) : Dw K H (.bl b) (.bool b)
  | int (i : Int) : Dw K H (.int i) (.int i)
  | str (x : Str) : Dw K H (.str x) (.str x)
  | byt (b : Array UInt8) : Dw K H (.byt b) (.bytes b.toList)
  | lst {a : Addr} {xs : List V} {ds : List WData} : SqL K H a xs → DwAll K H xs ds → Dw K H (.ref a) (.list ds)
  | tup {a : Addr} {xs : List V} {ds : List WData} : SqT K H a xs → DwAll K H xs ds → Dw K H (.ref a) (.tuple ds)
inductive DwAll (K : PySem.W.Frag) (H : Hp) : List V → List WData → Prop
  | nil : DwAll K H [] []
  | cons {v : V} {vs : List V} {d : WData} {ds : List WData} : Dw K H v d → DwAll K H vs ds → DwAll K H (v :: vs) (d :: ds)
end
theorem dw_ints {K : PySem.W.Frag} {H : Hp} : ∀ ns : List Int, DwAll K H (ns.map V.int) (ns.map WData.int)
  | [] => .nil
  | n :: r => .cons (.int n) (dw_ints r)
theorem ints_dw {K : PySem.W.Frag} {H : Hp} : ∀ (ns : List Int) (xs : List V), DwAll K H xs (ns.map WData.int) → xs = ns.map V.int
  | [], xs, h => by
    cases h
    rfl
  | n :: r, xs, h => by
    cases h with
    | cons h1 h2 =>
      cases h1
      rw [ints_dw r _ h2] <;> rfl
section
variable {P : Program} {w : World} {K : PySem.W.Frag} {H : Hp} {h : Heap} {R : PySem.W.WRecords} {cl : Str → Option Addr}
theorem sqL_at {a : Addr} {xs : List V} (hok : HOk P w H h) (KX : K.In h) (q : SqL K H a xs) : ∃ (its : List Value) (o : Obj) (n : Nat), Vals xs its ∧ h.get? a = some o ∧ o.cls = .type "list" ∧ o.data = .seq its.toArray n := by
  rcases q with q | ⟨o, its, n, e, hc, _, hd, _, hv⟩
  · obtain ⟨_, its, n, hv, e⟩ := (show ObjOk P w H h a (.lst xs) from q.ok hok)
    exact ⟨its, _, n, hv, e, rfl, rfl⟩
  · exact ⟨its.toList, o, n, hv, KX _ _ e, hc, by simp [hd]⟩
theorem sqT_at {a : Addr} {xs : List V} (hok : HOk P w H h) (KX : K.In h) (q : SqT K H a xs) : ∃ (its : List Value) (o : Obj) (n : Nat), Vals xs its ∧ h.get? a = some o ∧ o.cls = .type "tuple" ∧ o.data = .seq its.toArray n := by
  rcases q with q | ⟨o, its, n, e, hc, hd, _, hv⟩
  · obtain ⟨_, its, hv, o, e, hc, n, hd⟩ := (show ObjOk P w H h a (.tup xs) from q.ok hok)
    exact ⟨its, o, n, hv, e, hc, hd⟩
  · exact ⟨its.toList, o, n, hv, KX _ _ e, hc, by simp [hd]⟩
mutual
theorem Dw.reads (hok : HOk P w H h) (KX : K.In h) : ∀ (d : WData) (v : V) (u : Value), Dw K H v d → RelV v u → ∃ as, ReadsW R cl h u d as
  | .none, _, _, x, r => by
    cases x
    cases r
    exact ⟨_, ReadsW.none⟩
  | .bool b, _, _, x, r => by
    cases x
    cases r
    exact ⟨_, ReadsW.bool b⟩
  | .int i, _, _, x, r => by
    cases x
    obtain ⟨t, rfl⟩ := r
    exact ⟨_, ReadsW.int i t⟩
  | .str s, _, _, x, r => by
    cases x
    obtain ⟨t, rfl⟩ := r
    exact ⟨_, ReadsW.str s t⟩
  | .bytes b, _, _, x, r => by
    cases x
    obtain ⟨t, rfl⟩ := r
    exact ⟨_, ReadsW.bytes _ t⟩
  | .list ds, _, _, x, r => by
    cases x with
    | lst hs ha =>
      cases r
      obtain ⟨its, o, n, rv, ho, hc, hd⟩ := sqL_at hok KX hs
      obtain ⟨as, hr⟩ := Dw.readsAll hok KX ds _ its ha rv
      exact ⟨_, ReadsW.list ho hc hd hr⟩
  | .tuple ds, _, _, x, r => by
    cases x with
    | tup hs ha =>
      cases r
      obtain ⟨its, o, n, rv, ho, hc, hd⟩ := sqT_at hok KX hs
      obtain ⟨as, hr⟩ := Dw.readsAll hok KX ds _ its ha rv
      exact ⟨_, ReadsW.tuple ho hc hd hr⟩
  | .float _, _, _, x, _ => by cases x
  | .dict _, _, _, x, _ => by cases x
  | .bytearray _, _, _, x, _ => by cases x
  | .set _, _, _, x, _ => by cases x
  | .frozenset _, _, _, x, _ => by cases x
  | .obj _ _, _, _, x, _ => by cases x
theorem Dw.readsAll (hok : HOk P w H h) (KX : K.In h) : ∀ (ds : List WData) (vs : List V) (us : List Value), DwAll K H vs ds → Vals vs us → ∃ as, ReadsAllW R cl h us ds as
  | [], _, _, x, r => by
    cases x
    cases r
    exact ⟨_, ReadsAllW.nil⟩
  | d :: ds, _, _, x, r => by
    cases x with
    | cons h1 h2 =>
      cases r with
      | cons r1 r2 =>
        obtain ⟨as, q1⟩ := Dw.reads hok KX d _ _ h1 r1
        obtain ⟨bs, q2⟩ := Dw.readsAll hok KX ds _ _ h2 r2
        exact ⟨_, ReadsAllW.cons q1 q2⟩
end
end
mutual
def plW : WData → Bool
  | .none => true
  | .bool _ => true
  | .int _ => true
  | .str _ => true
  | .bytes _ => true
  | .list xs => plWs xs
  | .tuple xs => plWs xs
  | _ => false
def plWs : List WData → Bool
  | [] => true
  | x :: r => plW x && plWs r
end
theorem plWs_map {α : Type} {f : α → WData} (h : ∀ a, plW (f a) = true) : ∀ l : List α, plWs (l.map f) = true
  | [] => rfl
  | x :: r => by
    show (plW (f x) && plWs (r.map f)) = true
    rw [h x, plWs_map h r] <;> rfl
theorem pl_enc : ∀ (c : Codec) (a : c.denote), plW (c.enc a) = true
  | .unit, _ => rfl
  | .bool, _ => rfl
  | .int _ _, _ => rfl
  | .nat _ _, _ => rfl
  | .u8, _ => rfl
  | .bytes _ _, _ => rfl
  | .text _ _ _ _, _ => rfl
  | .list _ _ c, a => plWs_map (fun x => pl_enc c x) a
  | .pair c d, a => by
    show (plW (c.enc a.1) && (plW (d.enc a.2) && true)) = true
    rw [pl_enc c a.1, pl_enc d a.2] <;> rfl
  | .triple c d e, a => by
    show (plW (c.enc a.1) && (plW (d.enc a.2.1) && (plW (e.enc a.2.2) && true))) = true
    rw [pl_enc c a.1, pl_enc d a.2.1, pl_enc e a.2.2] <;> rfl
  | .option c, none => rfl
  | .option c, some x => pl_enc c x
theorem pl_encAll : ∀ (cs : List Codec) (a : Codec.denoteAll cs), plWs (Codec.encAll cs a) = true
  | [], _ => rfl
  | c :: cs, a => by
    show (plW (c.enc a.1) && plWs (Codec.encAll cs a.2)) = true
    rw [pl_enc c a.1, pl_encAll cs a.2] <;> rfl
theorem weight_mem : ∀ {xs : List WData} {d : WData}, d ∈ xs → d.weight ≤ WData.weightAll xs
  | [], d, h => absurd h (by simp)
  | x :: r, d, h => by
    show d.weight ≤ x.weight + 1 + WData.weightAll r
    rcases List.mem_cons.mp h with e | m
    · rw [e]
      omega
    · have z := weight_mem m
      omega
def toV : Value → V
  | .none => .non
  | .bool b => .bl b
  | .int i _ => .int i
  | .str x _ => .str x
  | .bytes b _ => .byt b
  | .ref a => .ref a
  | _ => .non
def OkU (A : List Addr) : Value → Prop
  | .none => True
  | .bool _ => True
  | .int _ _ => True
  | .str _ _ => True
  | .bytes _ _ => True
  | .ref a => a ∈ A
  | _ => False
theorem OkU.mono {A B : List Addr} (h : ∀ a ∈ A, a ∈ B) : ∀ {u : Value}, OkU A u → OkU B u := fun {u} x => by
  cases u with
  | ref a => exact h a x
  | none => trivial
  | bool b => trivial
  | int i t => trivial
  | str s t => trivial
  | bytes b t => trivial
  | _ => exact False.elim x
theorem relV_toV {A : List Addr} {u : Value} (x : OkU A u) : RelV (toV u) u := by
  cases u with
  | ref a => rfl
  | none => rfl
  | bool b => rfl
  | int i t => exact ⟨t, rfl⟩
  | str s t => exact ⟨t, rfl⟩
  | bytes b t => exact ⟨t, rfl⟩
  | _ => exact False.elim x
theorem vals_toV {A : List Addr} : ∀ {vs : List Value}, (∀ u ∈ vs, OkU A u) → Vals (vs.map toV) vs
  | [], _ => .nil
  | u :: r, h => .cons (relV_toV (h u (List.mem_cons_self ..))) (vals_toV fun x hx => h x (List.mem_cons_of_mem _ hx))
def ArgOb (h : Heap) (A : List Addr) (a : Addr) : Prop := ∃ vs : List Value, vs.length ≤ sizeLine ∧ (∀ u ∈ vs, OkU A u) ∧
  (h.get? a = some { cls := .type "list", data := .seq vs.toArray } ∨ h.get? a = some { cls := .type "tuple", data := .seq vs.toArray })
theorem ArgOb.mono {h : Heap} {A B : List Addr} {a : Addr} (k : ∀ a ∈ A, a ∈ B) (x : ArgOb h A a) : ArgOb h B a := by
  obtain ⟨vs, h1, h2, h3⟩ := x
  exact ⟨vs, h1, fun u hu => (h2 u hu).mono k, h3⟩
theorem wellAll_len {P : Params} {h : Heap} : ∀ {vs : List Value} {ds : List WData}, WellAll P h vs ds → vs.length = ds.length
  | _, _, .nil => rfl
  | _, _, .cons _ b => by
    show _ + 1 = _ + 1
    rw [wellAll_len b]
theorem well_list {P : Params} {h : Heap} {v : Value} {ds : List WData} (x : Well P h v (.list ds)) : ∃ (a : Addr) (vs : List Value), v = .ref a ∧ h.get? a = some { cls := .type "list", data := .seq vs.toArray } ∧ WellAll P h vs ds := by
  cases x with
  | list ho hall => exact ⟨_, _, rfl, ho, hall⟩
theorem well_tuple {P : Params} {h : Heap} {v : Value} {ds : List WData} (x : Well P h v (.tuple ds)) : ∃ (a : Addr) (vs : List Value), v = .ref a ∧ h.get? a = some { cls := .type "tuple", data := .seq vs.toArray } ∧ WellAll P h vs ds := by
  cases x with
  | tuple ho hall => exact ⟨_, _, rfl, ho, hall⟩
theorem well_cons {P : Params} {h : Heap} {us : List Value} {d : WData} {ds : List WData} (x : WellAll P h us (d :: ds)) : ∃ (v : Value) (vs : List Value), us = v :: vs ∧ Well P h v d ∧ WellAll P h vs ds := by
  cases x with
  | cons a b => exact ⟨_, _, rfl, a, b⟩
theorem line_of {n : Nat} (h : n ≤ 1048576) : n ≤ sizeLine := Nat.le_trans h (by decide)
section
variable {P : Params} {h : Heap}
mutual
theorem area_one : ∀ (d : WData) (v : Value), Well P h v d → plW d = true → d.weight ≤ 1048576 → ∃ A : List Addr, OkU A v ∧ ∀ a ∈ A, ArgOb h A a
  | .none, _, x, _, _ => by
    cases x
    exact ⟨[], trivial, fun a m => absurd m (by simp)⟩
  | .bool b, _, x, _, _ => by
    cases x
    exact ⟨[], trivial, fun a m => absurd m (by simp)⟩
  | .int i, _, x, _, _ => by
    cases x
    exact ⟨[], trivial, fun a m => absurd m (by simp)⟩
  | .str s, _, x, _, _ => by
    cases x
    exact ⟨[], trivial, fun a m => absurd m (by simp)⟩
  | .bytes b, _, x, _, _ => by
    cases x
    exact ⟨[], trivial, fun a m => absurd m (by simp)⟩
  | .list ds, _, x, p, z => by
    obtain ⟨a, vs, rfl, ho, hall⟩ := well_list x
    have z2 : WData.weightAll ds ≤ 1048576 := z
    obtain ⟨A, h1, h2⟩ := area_all ds _ hall p fun d hd => Nat.le_trans (weight_mem hd) z2
    have k : ∀ b ∈ A, b ∈ a :: A := fun b hb => List.mem_cons_of_mem _ hb
    refine ⟨a :: A, List.mem_cons_self .., fun b hb => ?_⟩
    rcases List.mem_cons.mp hb with e | m
    · rw [e]
      exact ⟨vs, line_of (by rw [wellAll_len hall]; exact Nat.le_trans (PySem.W.length_le_weightAllW ds) z2), fun u hu => (h1 u hu).mono k, .inl ho⟩
    · exact (h2 b m).mono k
  | .tuple ds, _, x, p, z => by
    obtain ⟨a, vs, rfl, ho, hall⟩ := well_tuple x
    have z2 : WData.weightAll ds ≤ 1048576 := z
    obtain ⟨A, h1, h2⟩ := area_all ds _ hall p fun d hd => Nat.le_trans (weight_mem hd) z2
    have k : ∀ b ∈ A, b ∈ a :: A := fun b hb => List.mem_cons_of_mem _ hb
    refine ⟨a :: A, List.mem_cons_self .., fun b hb => ?_⟩
    rcases List.mem_cons.mp hb with e | m
    · rw [e]
      exact ⟨vs, line_of (by rw [wellAll_len hall]; exact Nat.le_trans (PySem.W.length_le_weightAllW ds) z2), fun u hu => (h1 u hu).mono k, .inr ho⟩
    · exact (h2 b m).mono k
  | .float _, _, _, p, _ => Bool.noConfusion (show false = true from p)
  | .dict _, _, _, p, _ => Bool.noConfusion (show false = true from p)
  | .bytearray _, _, _, p, _ => Bool.noConfusion (show false = true from p)
  | .set _, _, _, p, _ => Bool.noConfusion (show false = true from p)
  | .frozenset _, _, _, p, _ => Bool.noConfusion (show false = true from p)
  | .obj _ _, _, _, p, _ => Bool.noConfusion (show false = true from p)
theorem area_all : ∀ (ds : List WData) (vs : List Value), WellAll P h vs ds → plWs ds = true → (∀ d ∈ ds, d.weight ≤ 1048576) → ∃ A : List Addr, (∀ u ∈ vs, OkU A u) ∧ ∀ a ∈ A, ArgOb h A a
  | [], _, x, _, _ => by
    cases x
    exact ⟨[], fun u m => absurd m (by simp), fun a m => absurd m (by simp)⟩
  | d :: ds, _, x, p, z => by
    obtain ⟨v, vs, rfl, x1, x2⟩ := well_cons x
    have q : plW d = true ∧ plWs ds = true := Bool.and_eq_true_iff.mp p
    obtain ⟨A, a1, a2⟩ := area_one d v x1 q.1 (z d (List.mem_cons_self ..))
    obtain ⟨B, b1, b2⟩ := area_all ds vs x2 q.2 fun e he => z e (List.mem_cons_of_mem _ he)
    have kA : ∀ b ∈ A, b ∈ A ++ B := fun b hb => List.mem_append.mpr (.inl hb)
    have kB : ∀ b ∈ B, b ∈ A ++ B := fun b hb => List.mem_append.mpr (.inr hb)
    refine ⟨A ++ B, fun u hu => ?_, fun b hb => ?_⟩
    · rcases List.mem_cons.mp hu with e | m
      · rw [e]
        exact a1.mono kA
      · exact (b1 u m).mono kB
    · rcases List.mem_append.mp hb with m | m
      · exact (a2 b m).mono kA
      · exact (b2 b m).mono kB
end
end
def hoOf (o : Obj) : Option HO := match o.data with
  | .seq vs _ => if (o.cls == Value.type "list") = true then some (.frz o (.lst (vs.toList.map toV))) else some (.frz o (.tup (vs.toList.map toV)))
  | _ => none
def argH (K : PySem.W.Frag) (h : Heap) (A : List Addr) : Hp := fun b => if b ∈ A then (if (K.lookup b).isNone = true then (h.get? b).bind hoOf else none) else none
def OnlyF (H : Hp) : Prop := ∀ b, H b = none ∨ ∃ o u, H b = some (.frz o u)
theorem hoOf_lst (vs : List Value) : hoOf { cls := .type "list", data := .seq vs.toArray } = some (.frz { cls := .type "list", data := .seq vs.toArray } (.lst (vs.map toV))) := by
  show (if (Value.type "list" == Value.type "list") = true then some (HO.frz { cls := .type "list", data := .seq vs.toArray } (.lst (vs.toArray.toList.map toV))) else some (HO.frz { cls := .type "list", data := .seq vs.toArray } (.tup (vs.toArray.toList.map toV)))) = _
  rw [if_pos (beq_self_eq_true _)]
theorem hoOf_tup (vs : List Value) : hoOf { cls := .type "tuple", data := .seq vs.toArray } = some (.frz { cls := .type "tuple", data := .seq vs.toArray } (.tup (vs.map toV))) := by
  show (if (Value.type "tuple" == Value.type "list") = true then some (HO.frz { cls := .type "tuple", data := .seq vs.toArray } (.lst (vs.toArray.toList.map toV))) else some (HO.frz { cls := .type "tuple", data := .seq vs.toArray } (.tup (vs.toArray.toList.map toV)))) = _
  rw [if_neg (by decide)]
section
variable {P : Program} {w : World} {K : PySem.W.Frag} {h : Heap} {A : List Addr}
theorem argH_at {b : Addr} {o : Obj} (hb : b ∈ A) (hk : K.lookup b = none) (e : h.get? b = some o) : argH K h A b = hoOf o := by
  unfold argH
  rw [if_pos hb, hk, if_pos (show (none : Option Obj).isNone = true from rfl), e] <;> rfl
theorem of_argH {b : Addr} {u : HO} (q : argH K h A b = some u) : b ∈ A ∧ K.lookup b = none := by
  unfold argH at q
  by_cases hb : b ∈ A
  · rw [if_pos hb] at q
    cases hk : K.lookup b with
    | none => exact ⟨hb, rfl⟩
    | some o =>
      rw [hk, if_neg (by simp)] at q
      cases q
  · rw [if_neg hb] at q
    cases q
theorem argH_is (ar : ∀ a ∈ A, ArgOb h A a) {b : Addr} {u : HO} (q : argH K h A b = some u) : K.lookup b = none ∧ ∃ vs : List Value, vs.length ≤ sizeLine ∧ (∀ u ∈ vs, OkU A u) ∧
    ((h.get? b = some { cls := .type "list", data := .seq vs.toArray } ∧ u = .frz { cls := .type "list", data := .seq vs.toArray } (.lst (vs.map toV))) ∨
     (h.get? b = some { cls := .type "tuple", data := .seq vs.toArray } ∧ u = .frz { cls := .type "tuple", data := .seq vs.toArray } (.tup (vs.map toV)))) := by
  obtain ⟨hb, hk⟩ := of_argH q
  obtain ⟨vs, h1, h2, h3⟩ := ar b hb
  refine ⟨hk, vs, h1, h2, ?_⟩
  rcases h3 with e | e
  · rw [argH_at hb hk e, hoOf_lst] at q
    exact .inl ⟨e, (Option.some.inj q).symm⟩
  · rw [argH_at hb hk e, hoOf_tup] at q
    exact .inr ⟨e, (Option.some.inj q).symm⟩
theorem argH_only (ar : ∀ a ∈ A, ArgOb h A a) : OnlyF (argH K h A) := fun b => by
  cases q : argH K h A b with
  | none => exact .inl rfl
  | some u =>
    obtain ⟨_, vs, _, _, ⟨_, e⟩ | ⟨_, e⟩⟩ := argH_is ar q
    · exact .inr ⟨_, _, by rw [e]⟩
    · exact .inr ⟨_, _, by rw [e]⟩
theorem argH_ok (ar : ∀ a ∈ A, ArgOb h A a) : HOk P w (argH K h A) h := fun b u q => by
  obtain ⟨_, vs, h1, h2, ⟨e, rfl⟩ | ⟨e, rfl⟩⟩ := argH_is ar q
  · exact ⟨e, by rw [List.length_map]; exact h1, vs, _, vals_toV h2, e⟩
  · exact ⟨e, by rw [List.length_map]; exact h1, vs, vals_toV h2, _, e, rfl, _, rfl⟩
theorem seq_inj {c c' : Value} {vs us : List Value} (e : (some { cls := c, data := .seq vs.toArray } : Option Obj) = some { cls := c', data := .seq us.toArray }) : c = c' ∧ vs = us := by
  have e1 := Option.some.inj e
  have e2 : c = c' := congrArg Obj.cls e1
  have e3 : Data.seq vs.toArray = Data.seq us.toArray := congrArg Obj.data e1
  injection e3 with e4
  refine ⟨e2, ?_⟩
  have e5 := congrArg Array.toList e4
  simpa using e5
theorem argL (KX : K.In h) (ar : ∀ a ∈ A, ArgOb h A a) {a : Addr} {vs : List Value} (ha : a ∈ A) (e : h.get? a = some { cls := .type "list", data := .seq vs.toArray }) : (∀ u ∈ vs, OkU A u) ∧ SqL K (argH K h A) a (vs.map toV) := by
  obtain ⟨us, h1, h2, h3⟩ := ar a ha
  have hu : us = vs := by
    rcases h3 with q | q
    · rw [e] at q
      exact (seq_inj q).2.symm
    · rw [e] at q
      exact absurd (Value.type.inj (seq_inj q).1) (by decide)
  subst hu
  refine ⟨h2, ?_⟩
  cases hk : K.lookup a with
  | none => exact .inl (.inr ⟨_, by rw [argH_at ha hk e, hoOf_lst]⟩)
  | some o =>
    have e2 := KX a o hk
    rw [e] at e2
    obtain rfl := Option.some.inj e2
    exact .inr ⟨_, us.toArray, _, hk, rfl, rfl, rfl, by rw [List.size_toArray]; exact h1, by simpa using vals_toV h2⟩
theorem argT (KX : K.In h) (ar : ∀ a ∈ A, ArgOb h A a) {a : Addr} {vs : List Value} (ha : a ∈ A) (e : h.get? a = some { cls := .type "tuple", data := .seq vs.toArray }) : (∀ u ∈ vs, OkU A u) ∧ SqT K (argH K h A) a (vs.map toV) := by
  obtain ⟨us, h1, h2, h3⟩ := ar a ha
  have hu : us = vs := by
    rcases h3 with q | q
    · rw [e] at q
      exact absurd (Value.type.inj (seq_inj q).1) (by decide)
    · rw [e] at q
      exact (seq_inj q).2.symm
  subst hu
  refine ⟨h2, ?_⟩
  cases hk : K.lookup a with
  | none => exact .inl (.inr ⟨_, by rw [argH_at ha hk e, hoOf_tup]⟩)
  | some o =>
    have e2 := KX a o hk
    rw [e] at e2
    obtain rfl := Option.some.inj e2
    exact .inr ⟨_, us.toArray, _, hk, rfl, rfl, by rw [List.size_toArray]; exact h1, by simpa using vals_toV h2⟩
mutual
theorem dw_one {Pm : Params} (KX : K.In h) (ar : ∀ a ∈ A, ArgOb h A a) : ∀ (d : WData) (v : Value), Well Pm h v d → plW d = true → OkU A v → Dw K (argH K h A) (toV v) d
  | .none, _, x, _, _ => by
    cases x
    exact .non
  | .bool b, _, x, _, _ => by
    cases x
    exact .bl b
  | .int i, _, x, _, _ => by
    cases x
    exact .int i
  | .str s, _, x, _, _ => by
    cases x
    exact .str s
  | .bytes b, _, x, _, _ => by
    cases x
    have z := Dw.byt (K := K) (H := argH K h A) b.toArray
    exact z
  | .list ds, _, x, p, hu => by
    obtain ⟨a, vs, rfl, ho, hall⟩ := well_list x
    obtain ⟨h2, hs⟩ := argL KX ar hu ho
    exact .lst hs (dw_all KX ar ds _ hall p h2)
  | .tuple ds, _, x, p, hu => by
    obtain ⟨a, vs, rfl, ho, hall⟩ := well_tuple x
    obtain ⟨h2, hs⟩ := argT KX ar hu ho
    exact .tup hs (dw_all KX ar ds _ hall p h2)
  | .float _, _, _, p, _ => Bool.noConfusion (show false = true from p)
  | .dict _, _, _, p, _ => Bool.noConfusion (show false = true from p)
  | .bytearray _, _, _, p, _ => Bool.noConfusion (show false = true from p)
  | .set _, _, _, p, _ => Bool.noConfusion (show false = true from p)
  | .frozenset _, _, _, p, _ => Bool.noConfusion (show false = true from p)
  | .obj _ _, _, _, p, _ => Bool.noConfusion (show false = true from p)
theorem dw_all {Pm : Params} (KX : K.In h) (ar : ∀ a ∈ A, ArgOb h A a) : ∀ (ds : List WData) (vs : List Value), WellAll Pm h vs ds → plWs ds = true → (∀ u ∈ vs, OkU A u) → DwAll K (argH K h A) (vs.map toV) ds
  | [], _, x, _, _ => by
    cases x
    exact .nil
  | d :: ds, _, x, p, hu => by
    obtain ⟨v, vs, rfl, x1, x2⟩ := well_cons x
    have q : plW d = true ∧ plWs ds = true := Bool.and_eq_true_iff.mp p
    exact .cons (dw_one KX ar d v x1 q.1 (hu _ (List.mem_cons_self ..))) (dw_all KX ar ds vs x2 q.2 fun u m => hu u (List.mem_cons_of_mem _ m))
end
end
theorem spec_call {P : Program} {w : World} {K : PySem.W.Frag} {mg mb : Str → Option Value} {CX : CXT} {k : Nat} {fa : Addr} {fd : FuncData} {ps : List Str} {sp : Sp} {s₁ : Shared} {vals : List Value} {ds : List WData} {R : PySem.W.WRecords} {cl : Str → Option Addr} {d0 : WData}
    (KX : K.In s₁.heap) (hns : s₁.heap.Ns mainGlobals mg) (hb : s₁.heap.Ns builtinsNs mb) (hbb : ∀ x : Str, x ≠ "__name__" → mb x = bootBuiltins x) (hlim : s₁.heap.NoLimit) (hg : s₁.gens = #[])
    (hwl : WellAll w.params s₁.heap vals ds) (hpl : plWs ds = true) (hwt : ∀ d ∈ ds, d.weight ≤ 1048576) (hr : Room k callerA)
    (F : ∀ base : Heap, K.In base → base.Ns mainGlobals mg → FnOk P w K mg base CX k fa fd ps sp) (hbind : ∀ (s : Shared) (us : List Value), us.length = ps.length → BindsTo s fd ⟨us, []⟩ (ps.zip us)) (hlen : ds.length = ps.length)
    (hsp : ∀ (H : Hp) (xs : List V), OnlyF H → DwAll K H xs ds → sp xs H (fun v H' => Dw K H' v d0) fun _ _ _ => False)
    (hCX : ∀ H e s', CX [] H s₁ (fun _ _ _ => False) e s' → False) :
    codeAny (model P w) callerA (.call (.ref fa) ⟨vals, []⟩) (fun r s' => ∃ u as, r = .ok (.ret u) ∧ ReadsW R cl s'.heap u d0 as ∧ OldK s₁.heap s'.heap ∧ s'.os = s₁.os ∧ AllBare s'.gens) s₁ := by
  obtain ⟨A, ho, ar⟩ := area_all ds vals hwl hpl hwt
  have hO : OnlyF (argH K s₁.heap A) := argH_only ar
  have hok : HOk P w (argH K s₁.heap A) s₁.heap := argH_ok ar
  have hS := dw_all KX ar ds vals hwl hpl ho
  have hV := vals_toV ho
  have hK : ∀ b u, argH K s₁.heap A b = some u → K.lookup b = none := fun b u q => (argH_is ar q).1
  have noA : ∀ {b : Addr} {o : Obj} {es : Array DictEntry} {ep : Nat}, s₁.heap.get? b = some o → o.data = .dict es ep → argH K s₁.heap A b = none := fun {b o es ep} e d => by
    cases q : argH K s₁.heap A b with
    | none => rfl
    | some u =>
      obtain ⟨_, vs, _, _, ⟨e2, _⟩ | ⟨e2, _⟩⟩ := argH_is ar q
      · rw [e2] at e
        cases e
        have d' : Data.seq vs.toArray _ = Data.dict es ep := d
        cases d'
      · rw [e2] at e
        cases e
        have d' : Data.seq vs.toArray _ = Data.dict es ep := d
        cases d'
  generalize argH K s₁.heap A = H at hO hok hS hK noA
  have base_of : ∀ {b : Addr} {o : Obj}, s₁.heap.get? b = some o → H b = none → (hidT s₁.heap H).get? b = some o := fun e n => hidT_get e n
  have nsK : ∀ {b : Addr} {m : Str → Option Value}, s₁.heap.Ns b m → (hidT s₁.heap H).Ns b m := fun {b m} ⟨o, es, ep, e, d, r⟩ => ⟨o, es, ep, base_of e (noA e d), d, r⟩
  have nK : ∀ b o, K.lookup b = some o → H b = none := fun b o e => by
    cases q : H b with
    | none => rfl
    | some u =>
      rw [hK b u q] at e
      cases e
  have hKb : K.In (hidT s₁.heap H) := fun b o e => base_of (KX b o e) (nK b o e)
  have hM : Mod K mg (hidT s₁.heap H) := ⟨hKb, nsK hns, ⟨mb, nsK hb, hbb⟩, let ⟨mc, h1, h2⟩ := hlim; ⟨mc, nsK h1, h2⟩⟩
  have e0 : Env0 P w K mg (hidT s₁.heap H) callerA [] s₁ H := ⟨rfl, hM, fun b o e => of_hidT e, Nat.le_of_eq (hidT_size _ _), trivial, fun b hb => absurd (show b ∈ ([] : List Addr) from hb) (by simp), hok, .of_eq hg⟩
  have hl : vals.length = ps.length := by rw [wellAll_len hwl]; exact hlen
  refine codeAny_mono ((F _ hKb (nsK hns)).run callerA [] s₁ H ⟨vals, []⟩ vals (vals.map toV) _ _ hr e0 (hbind s₁ vals hl) hV (hsp H _ hO hS)) fun r s' x => ?_
  cases r with
  | error e => exact (hCX H e s' x).elim
  | ok fl =>
    cases fl with
    | next => exact False.elim x
    | brk => exact False.elim x
    | cont => exact False.elim x
    | ret u =>
      obtain ⟨v, H', os, bare, un, hok', r', q⟩ := x
      have kept : ∀ b o, s₁.heap.get? b = some o → s'.heap.get? b = some o := fun b o e => by
        cases q2 : H b with
        | none => exact un.keep b o e q2 (by intro z; exact absurd (show b ∈ ([] : List Addr) from z) (by simp)) (by simp)
        | some u2 =>
          rcases hO b with z | ⟨ob, u3, z⟩
          · rw [q2] at z
            cases z
          · have z2 := un.frzs b ob _ z
            obtain ⟨e1, _⟩ := hok b _ z
            obtain ⟨e2, _⟩ := hok' b _ z2
            rw [e] at e1
            cases e1
            exact e2
      have KX' : K.In s'.heap := fun b o e => kept b o (KX b o e)
      obtain ⟨as, hrd⟩ := Dw.reads (R := R) (cl := cl) hok' KX' d0 v u q r'
      exact ⟨u, as, rfl, hrd, OldK.of_keep kept, os, bare⟩
theorem layable_weight {ds : List WData} (h : WData.layableAll ds = true) : ∀ d ∈ ds, d.weight ≤ 1048576 := fun d hd =>
  (PySem.W.layableW_iff.mp (List.all_eq_true.mp h d hd)).2.2
theorem encAll_len : ∀ (cs : List Codec) (a : Codec.denoteAll cs), (Codec.encAll cs a).length = cs.length
  | [], _ => rfl
  | c :: cs, a => by
    show (Codec.encAll cs a.2).length + 1 = cs.length + 1
    rw [encAll_len cs a.2]
theorem walk_spec {r : OpenSpec} {k : Nat} {q : Program} {loose : List Str} {XP : (Str → Option Value) → Heap → Prop} {YP : World → Heap → Prop} {d : DefRec} {K : Params → PySem.W.Frag} {CX : World → CXT} {ps : List Str} {sp : World → Sp}
    (hwell : r.wellSaid = true) (hdf : d.params.defaults = []) (hlen : r.args.length = ps.length) (hr : Room k callerA)
    (hY : ∀ (w : World) (h : Heap), YP w h → (K w.params).In h)
    (F : ∀ (w : World) (mg : Str → Option Value) (fa : Addr) (h : Heap), YP w h → (K w.params).In h → h.Ns mainGlobals mg → mg d.name = some (.ref fa) →
      ∃ fd : FuncData, (∀ (s : Shared) (us : List Value), us.length = ps.length → BindsTo s fd ⟨us, []⟩ (ps.zip us)) ∧
        ∀ base : Heap, (K w.params).In base → base.Ns mainGlobals mg → FnOk r.prog w (K w.params) mg base (CX w) k fa fd ps (sp w))
    (hsp : ∀ (w : World) (H : Hp) (xs : List V) (a : Codec.denoteAll r.args), OnlyF H → Codec.withinAll r.args a = true → Codec.app r.args r.asked a = true → DwAll (K w.params) H xs (Codec.encAll r.args a) →
      sp w xs H (fun v H' => Dw (K w.params) H' v (r.ret.enc (Codec.app r.args r.f a))) fun _ _ _ => False)
    (hCX : ∀ (w : World) (H : Hp) (s : Shared) (e : Value) (s' : Shared), CX w [] H s (fun _ _ _ => False) e s' → False) :
    PySem.W.WalkOS q loose XP YP r d [] (fun f vs => PySem.call f vs) := by
  intro w s_0 s₁ mg mb G Y fa o pm cd doc dV kV ho hd hcd hD hmg hg args vals as hpre hlay hrd hwl hlo
  obtain ⟨a, e1, e2⟩ := PySem.W.os_pre_some hpre
  obtain ⟨e3, hwi⟩ := Codec.encAll_of_decAll r.args args a e1
  subst e3
  have KX := hY w _ Y
  obtain ⟨fd, hb, hF⟩ := F w mg fa _ Y KX G.T.g hmg
  refine PySem.W.enter_call (codeAny_mono (spec_call (R := []) (cl := classAt s_0.heap) (d0 := r.ret.enc (Codec.app r.args r.f a)) KX G.T.g G.T.b G.T.builtins G.T.nolimit hg hwl (pl_encAll _ _) (layable_weight hlay) hr hF hb (by rw [encAll_len]; exact hlen)
    (fun H xs hO hS => hsp w H xs a hO hwi e2 hS) fun H e s' => hCX w H s₁ e s') fun r' s' hq => ?_)
  obtain ⟨u, as', rfl, h1, h2, h3, h4⟩ := hq
  exact ⟨.inl ⟨u, _, as', rfl, fun _ => rfl, h1, (OpenSpec.post_iff hwell hwi _ _).mpr rfl, fun z => Bool.noConfusion (show false = true from z)⟩, h2, h3, h4⟩
theorem walk_specK {r : OpenSpec} {k : Nat} {q : Program} {loose : List Str} {XP : (Str → Option Value) → Heap → Prop} {YP : World → Heap → Prop} {d : DefRec} {K : Params → PySem.W.Frag} {CX : CXT} {ps : List Str} {sp : PySem.W.Frag → Sp}
    (hwell : r.wellSaid = true) (hdf : d.params.defaults = []) (hlen : r.args.length = ps.length) (hr : Room k callerA)
    (hY : ∀ (w : World) (h : Heap), YP w h → (K w.params).In h)
    (F : ∀ (w : World) (mg : Str → Option Value) (fa : Addr) (h : Heap), YP w h → (K w.params).In h → h.Ns mainGlobals mg → mg d.name = some (.ref fa) →
      ∃ fd : FuncData, (∀ (s : Shared) (us : List Value), us.length = ps.length → BindsTo s fd ⟨us, []⟩ (ps.zip us)) ∧
        ∀ base : Heap, (K w.params).In base → base.Ns mainGlobals mg → FnOk r.prog w (K w.params) mg base CX k fa fd ps (sp (K w.params)))
    (hsp : ∀ (K : PySem.W.Frag) (H : Hp) (xs : List V) (a : Codec.denoteAll r.args), OnlyF H → Codec.withinAll r.args a = true → Codec.app r.args r.asked a = true → DwAll K H xs (Codec.encAll r.args a) →
      sp K xs H (fun v H' => Dw K H' v (r.ret.enc (Codec.app r.args r.f a))) fun _ _ _ => False)
    (hCX : ∀ (H : Hp) (s : Shared) (e : Value) (s' : Shared), CX [] H s (fun _ _ _ => False) e s' → False) :
    PySem.W.WalkOS q loose XP YP r d [] (fun f vs => PySem.call f vs) :=
  walk_spec (K := K) (CX := fun _ => CX) (sp := fun w => sp (K w.params)) hwell hdf hlen hr hY F (fun w H xs a h1 h2 h3 h4 => hsp (K w.params) H xs a h1 h2 h3 h4) fun _ H s e s' => hCX H s e s'
end L2
end


section
namespace BF
open Sc12
inductive Reach (next : Nat → List Nat) (l : List Nat) : Nat → Prop
  | base {x : Nat} : x ∈ l → Reach next l x
  | step {x y : Nat} : Reach next l x → y ∈ next x → Reach next l y
theorem Reach.mono {next next' : Nat → List Nat} {l l' : List Nat} (h1 : ∀ x ∈ l, Reach next' l' x) (h2 : ∀ x y, Reach next' l' x → y ∈ next x → Reach next' l' y) {x : Nat} (h : Reach next l x) : Reach next' l' x := by
  induction h with
  | base m => exact h1 _ m
  | step _ m ih => exact h2 _ _ ih m
theorem Reach.lt {next : Nat → List Nat} {l : List Nat} {n : Nat} (h1 : ∀ x ∈ l, x < n) (h2 : ∀ x, x < n → ∀ y ∈ next x, y < n) {x : Nat} (h : Reach next l x) : x < n := by
  induction h with
  | base m => exact h1 _ m
  | step _ m ih => exact h2 _ ih _ m
theorem Reach.closed {next : Nat → List Nat} {l : List Nat} {P : Nat → Prop} (h1 : ∀ x ∈ l, P x) (h2 : ∀ x y, P x → y ∈ next x → P y) {x : Nat} (h : Reach next l x) : P x := by
  induction h with
  | base m => exact h1 _ m
  | step _ m ih => exact h2 _ _ ih m
theorem mem_eraseDups : ∀ (n : Nat) (l : List Nat), l.length ≤ n → ∀ x, x ∈ l.eraseDups ↔ x ∈ l
  | _, [], _, x => by simp
  | 0, a :: l, h, x => by simp at h
  | n + 1, a :: l, h, x => by
    rw [List.eraseDups_cons, List.mem_cons, mem_eraseDups n _ (Nat.le_trans (List.length_filter_le _ _) (by simpa using h)), List.mem_filter, List.mem_cons]
    by_cases e : x = a <;> simp [e]
theorem nodup_eraseDups : ∀ (n : Nat) (l : List Nat), l.length ≤ n → l.eraseDups.Nodup
  | _, [], _ => by simp
  | 0, a :: l, h => by simp at h
  | n + 1, a :: l, h => by
    have hl : (l.filter fun b => !b == a).length ≤ n := Nat.le_trans (List.length_filter_le _ _) (by simpa using h)
    rw [List.eraseDups_cons, List.nodup_cons]
    refine ⟨fun m => ?_, nodup_eraseDups n _ hl⟩
    rw [mem_eraseDups n _ hl, List.mem_filter] at m
    simp at m
theorem nodup_len : ∀ (n : Nat) (l : List Nat), l.Nodup → (∀ x ∈ l, x < n) → l.length ≤ n
  | 0, [], _, _ => Nat.le_refl _
  | 0, a :: l, _, h => absurd (h a (List.mem_cons_self ..)) (Nat.not_lt_zero _)
  | n + 1, l, hd, h => by
    have q := nodup_len n (l.erase n) (hd.erase n) fun x m => by
      have m' : x ≠ n ∧ x ∈ l := hd.mem_erase_iff.mp m
      have := h x m'.2
      omega
    rw [List.length_erase] at q
    split at q <;> omega
theorem nodup_sub : ∀ {a b : List Nat}, a.Nodup → (∀ x ∈ a, x ∈ b) → a.length ≤ b.length
  | [], _, _, _ => Nat.zero_le _
  | x :: a, b, hd, hs => by
    obtain ⟨h1, h2⟩ := List.nodup_cons.mp hd
    have hx := hs x (List.mem_cons_self ..)
    have q := nodup_sub (a := a) (b := b.erase x) h2 fun y hy => by
      have hy' := hs y (List.mem_cons_of_mem _ hy)
      exact (List.mem_erase_of_ne (by intro e; rw [e] at hy; exact h1 hy)).mpr hy'
    rw [List.length_erase_of_mem hx] at q
    have := List.length_pos_of_mem hx
    simp
    omega
theorem ways_sound {next : Nat → List Nat} : ∀ (k : Nat) (l : List Nat) (x : Nat), x ∈ ways next k l → Reach next l x
  | 0, _, _, h => .base h
  | k + 1, l, x, h => by
    unfold ways at h
    dsimp only at h
    split at h
    · exact .base h
    · refine Reach.mono (fun y hy => ?_) (fun _ _ r m => .step r m) (ways_sound k _ x h)
      rw [mem_eraseDups _ _ (Nat.le_refl _), List.mem_append] at hy
      rcases hy with hy | hy
      · exact .base hy
      · rw [List.mem_filter, List.mem_flatMap] at hy
        obtain ⟨⟨z, hz, hyz⟩, _⟩ := hy
        exact .step (.base hz) hyz
theorem ways_sub {next : Nat → List Nat} : ∀ (k : Nat) (l : List Nat) (x : Nat), x ∈ l → x ∈ ways next k l
  | 0, _, _, h => h
  | k + 1, l, x, h => by
    unfold ways
    dsimp only
    split
    · exact h
    · refine ways_sub k _ x ?_
      rw [mem_eraseDups _ _ (Nat.le_refl _), List.mem_append]
      exact .inl h
theorem ways_closed {next : Nat → List Nat} {n : Nat} (hn : ∀ x, x < n → ∀ y ∈ next x, y < n) : ∀ (k : Nat) (l : List Nat), l.Nodup → (∀ x ∈ l, x < n) → n ≤ l.length + k → ∀ x y, x ∈ ways next k l → y ∈ next x → y ∈ ways next k l
  | 0, l, hd, hl, hk, x, y, hx, hy => by
    show y ∈ l
    have hx : x ∈ l := hx
    refine Classical.byContradiction fun hny => ?_
    have := nodup_len n (y :: l) (List.nodup_cons.mpr ⟨hny, hd⟩) fun z hz => by
      rcases List.mem_cons.mp hz with e | e
      · rw [e]; exact hn x (hl x hx) y hy
      · exact hl z e
    simp at this
    omega
  | k + 1, l, hd, hl, hk, x, y, hx, hy => by
    unfold ways at hx ⊢
    dsimp only at hx ⊢
    split at hx
    · rename_i he
      rw [if_pos he]
      refine Classical.byContradiction fun hny => ?_
      have : y ∈ (l.flatMap next).filter fun x => !l.contains x := by
        rw [List.mem_filter, List.mem_flatMap]
        exact ⟨⟨x, hx, hy⟩, by simp [hny]⟩
      rw [List.isEmpty_iff.mp he] at this
      simp at this
    · rename_i he
      rw [if_neg he]
      have hm : ∀ z ∈ l ++ (l.flatMap next).filter fun x => !l.contains x, z < n := fun z hz => by
        rcases List.mem_append.mp hz with hz | hz
        · exact hl z hz
        · rw [List.mem_filter, List.mem_flatMap] at hz
          obtain ⟨⟨u, hu, hzu⟩, _⟩ := hz
          exact hn u (hl u hu) z hzu
      refine ways_closed hn k _ (nodup_eraseDups _ _ (Nat.le_refl _)) (fun z hz => hm z ((mem_eraseDups _ _ (Nat.le_refl _) z).mp hz)) ?_ x y hx hy
      obtain ⟨z, hz⟩ : ∃ z, z ∈ (l.flatMap next).filter fun x => !l.contains x := by
        cases q : (l.flatMap next).filter fun x => !l.contains x with
        | nil => rw [q] at he; simp at he
        | cons z r => exact ⟨z, List.mem_cons_self ..⟩
      have hzl : z ∉ l := by
        have := (List.mem_filter.mp hz).2
        simpa using this
      have q : (z :: l).length ≤ (l ++ (l.flatMap next).filter fun x => !l.contains x).eraseDups.length := by
        have hsub : ∀ w ∈ z :: l, w ∈ (l ++ (l.flatMap next).filter fun x => !l.contains x).eraseDups := fun w hw => by
          rw [mem_eraseDups _ _ (Nat.le_refl _), List.mem_append]
          rcases List.mem_cons.mp hw with e | e
          · rw [e]; exact .inr hz
          · exact .inl e
        exact nodup_sub (List.nodup_cons.mpr ⟨hzl, hd⟩) hsub
      rw [List.length_cons] at q
      omega
theorem mem_ways {next : Nat → List Nat} {n k : Nat} (hn : ∀ x, x < n → ∀ y ∈ next x, y < n) {l : List Nat} (hd : l.Nodup) (hl : ∀ x ∈ l, x < n) (hk : n ≤ l.length + k) (x : Nat) : x ∈ ways next k l ↔ Reach next l x :=
  ⟨ways_sound k l x, fun h => Reach.closed (P := fun x => x ∈ ways next k l) (fun y hy => ways_sub k l y hy) (fun y z hy hz => ways_closed hn k l hd hl hk y z hy hz) h⟩
theorem nodup_ways {next : Nat → List Nat} : ∀ (k : Nat) (l : List Nat), l.Nodup → (ways next k l).Nodup
  | 0, _, h => h
  | k + 1, l, h => by
    unfold ways
    dsimp only
    split
    · exact h
    · exact nodup_ways k _ (nodup_eraseDups _ _ (Nat.le_refl _))
theorem fold_set (f : Nat → Bool) : ∀ (n i : Nat), ((List.range n).foldl (fun m i => if f i = true then m + 2 ^ i else m) 0).testBit i = (decide (i < n) && f i) ∧ (List.range n).foldl (fun m i => if f i = true then m + 2 ^ i else m) 0 < 2 ^ n
  | 0, i => by simp
  | n + 1, i => by
    have ih := fun i => fold_set f n i
    rw [List.range_succ, List.foldl_append]
    generalize hA : (List.range n).foldl (fun m i => if f i = true then m + 2 ^ i else m) 0 = A at ih
    simp only [List.foldl_cons, List.foldl_nil]
    have hlt : A < 2 ^ n := (ih 0).2
    by_cases hf : f n = true
    · rw [if_pos hf]
      refine ⟨?_, by rw [Nat.pow_succ]; omega⟩
      by_cases e : i = n
      · subst e
        rw [Nat.add_comm, Nat.testBit_two_pow_add_eq, Nat.testBit_lt_two_pow hlt]
        simp [hf]
      · by_cases h : i < n
        · rw [Nat.add_comm, Nat.testBit_two_pow_add_gt h, (ih i).1]
          simp [h, Nat.lt_succ_of_lt h]
        · have h1 : A + 2 ^ n < 2 ^ i := Nat.lt_of_lt_of_le (by rw [Nat.pow_succ]; omega : A + 2 ^ n < 2 ^ (n + 1)) (Nat.pow_le_pow_right (by decide) (by omega))
          rw [Nat.testBit_lt_two_pow h1]
          have : ¬ i < n + 1 := by omega
          simp [this]
    · rw [if_neg hf]
      refine ⟨?_, by rw [Nat.pow_succ]; omega⟩
      rw [(ih i).1]
      by_cases e : i = n
      · subst e; simp [hf]
      · have : i < n + 1 ↔ i < n := by omega
        simp [this]
theorem testBit_set (n : Nat) (f : Nat → Bool) (i : Nat) : (Sc12.set n f).testBit i = (decide (i < n) && f i) := (fold_set f n i).1
theorem set_lt (n : Nat) (f : Nat → Bool) : Sc12.set n f < 2 ^ n := (fold_set f n 0).2
theorem eq_set {m n : Nat} {f : Nat → Bool} (h : ∀ i, m.testBit i = (decide (i < n) && f i)) : m = Sc12.set n f := Nat.eq_of_testBit_eq fun i => by rw [h i, testBit_set]
theorem set_congr {n : Nat} {f g : Nat → Bool} (h : ∀ i, i < n → f i = g i) : Sc12.set n f = Sc12.set n g := Nat.eq_of_testBit_eq fun i => by
  rw [testBit_set, testBit_set]
  by_cases q : i < n
  · rw [h i q]
  · simp [q]
end BF
end


section
namespace BF
open Sc12
theorem behind_lt {s : State} {b c : Nat} (h : c ∈ behind s b) : c < s.length := by
  unfold behind at h
  have := (List.mem_filter.mp h).2
  simpa using this
theorem opsOf_ge {s : State} {b : Nat} (h : s.length ≤ b) : opsOf s b = [] := by
  unfold opsOf
  rw [List.getElem?_eq_none h]
  rfl
theorem endOf_ge {s : State} {b : Nat} (h : s.length ≤ b) : endOf s b = .none_ := by
  unfold endOf
  rw [List.getElem?_eq_none h]
  rfl
theorem behind_ge {s : State} {b : Nat} (h : s.length ≤ b) : behind s b = [] := by
  unfold behind
  rw [endOf_ge h]
  rfl
def avoid (s : State) (a x : Nat) : List Nat := (behind s x).filter fun t => t != a
theorem mem_avoid {s : State} {a x y : Nat} : y ∈ avoid s a x ↔ y ∈ behind s x ∧ y ≠ a := by
  unfold avoid
  rw [List.mem_filter]
  simp
theorem avoid_lt {s : State} {a x y : Nat} (h : y ∈ avoid s a x) : y < s.length := behind_lt (mem_avoid.mp h).1
section
variable {s : State} (hs : s.length ≤ 64)
include hs
theorem mem_reached {x : Nat} : x ∈ reached s ↔ 0 < s.length ∧ Reach (behind s) [0] x := by
  unfold reached
  by_cases h : s.length = 0
  · rw [if_pos h]
    simp [h]
  · rw [if_neg h, mem_ways (n := s.length) (k := BLOCKS) (fun _ _ y hy => behind_lt hy) (by simp) (by simp; omega) (by simp [BLOCKS]; omega)]
    simp; omega
theorem reached_lt {x : Nat} (h : x ∈ reached s) : x < s.length := by
  obtain ⟨h0, h⟩ := (mem_reached hs).mp h
  exact h.lt (by simp; omega) (fun _ _ y hy => behind_lt hy)
theorem reached_next {x y : Nat} (h : x ∈ reached s) (hy : y ∈ behind s x) : y ∈ reached s := by
  obtain ⟨h0, h⟩ := (mem_reached hs).mp h
  exact (mem_reached hs).mpr ⟨h0, .step h hy⟩
theorem reached_zero (h : 0 < s.length) : 0 ∈ reached s := (mem_reached hs).mpr ⟨h, .base (by simp)⟩
omit hs in
theorem nodup_reached : (reached s).Nodup := by
  unfold reached
  split
  · simp
  · exact nodup_ways _ _ (by simp)
def Past (s : State) (a b : Nat) : Prop := a ≠ 0 ∧ Reach (avoid s a) [0] b
omit hs in
theorem Past.ne {a b : Nat} (h : Past s a b) : b ≠ a := by
  obtain ⟨h0, h⟩ := h
  cases h with
  | base m => simp at m; omega
  | step _ m => exact (mem_avoid.mp m).2
omit hs in
theorem Past.reach {a b : Nat} (h : Past s a b) : Reach (behind s) [0] b := h.2.mono (fun x m => .base m) fun _ _ r m => .step r (mem_avoid.mp m).1
theorem over_iff {a b : Nat} : over s a b = true ↔ b ∈ reached s ∧ ¬ Past s a b := by
  unfold over
  simp only [Bool.and_eq_true, List.contains_iff_mem, Bool.or_eq_true, beq_iff_eq, Bool.not_eq_true']
  by_cases h0 : 0 < s.length
  · have hw : ∀ x, (ways (fun x => (behind s x).filter fun t => t != a) BLOCKS [0]).contains x = true ↔ Reach (avoid s a) [0] x := fun x => by
      rw [List.contains_iff_mem]
      exact mem_ways (n := s.length) (fun _ _ y hy => avoid_lt hy) (by simp) (by simp; omega) (by simp [BLOCKS]; omega) x
    rw [← Bool.not_eq_true, hw]
    constructor
    · rintro ⟨h1, h2, h3⟩
      refine ⟨h2, fun p => ?_⟩
      rcases h3 with (h3 | h3) | h3
      · exact p.ne h3.symm
      · exact p.1 h3
      · exact h3 p.2
    · rintro ⟨h1, h2⟩
      by_cases ha : a ∈ reached s
      · refine ⟨ha, h1, ?_⟩
        by_cases e : a = 0
        · exact .inl (.inr e)
        · exact .inr fun r => h2 ⟨e, r⟩
      · exfalso
        have na : a ≠ 0 := fun e => ha (by rw [e]; exact reached_zero hs h0)
        refine h2 ⟨na, ?_⟩
        have q : ∀ {x}, Reach (behind s) [0] x → Reach (avoid s a) [0] x := fun r => by
          induction r with
          | base m => exact .base m
          | step r m ih => exact .step ih (mem_avoid.mpr ⟨m, fun e => ha (by rw [← e]; exact (mem_reached hs).mpr ⟨h0, .step r m⟩)⟩)
        exact q ((mem_reached hs).mp h1).2
  · have hr : reached s = [] := by unfold reached; rw [if_pos (by omega)]
    rw [hr]
    simp
omit hs in
theorem over_reached {a b : Nat} (h : over s a b = true) : a ∈ reached s ∧ b ∈ reached s := by
  unfold over at h
  simp only [Bool.and_eq_true, List.contains_iff_mem] at h
  exact ⟨h.1, h.2.1⟩
theorem over_lt {a b : Nat} (h : over s a b = true) : a < s.length ∧ b < s.length := ⟨reached_lt hs (over_reached h).1, reached_lt hs (over_reached h).2⟩
end
theorem through_cons (v : Nat) (i : Ins) (l : List Ins) (r : Bool) : through v (i :: l) r = (i.uses v || (through v l r && i.d != v)) := rfl
theorem through_append (v : Nat) : ∀ (l m : List Ins) (r : Bool), through v (l ++ m) r = through v l (through v m r)
  | [], _, _ => rfl
  | i :: l, m, r => by rw [List.cons_append, through_cons, through_cons, through_append v l m r]
theorem through_or (v : Nat) : ∀ (l : List Ins) (x y : Bool), through v l (x || y) = (through v l x || through v l y)
  | [], _, _ => rfl
  | i :: l, x, y => by
    rw [through_cons, through_cons, through_cons, through_or v l x y]
    cases i.uses v <;> cases through v l x <;> cases through v l y <;> cases (i.d != v) <;> rfl
theorem through_mono {v : Nat} {l : List Ins} {x y : Bool} (h : x = true → y = true) (q : through v l x = true) : through v l y = true := by
  have e : y = (x || y) := by cases x <;> cases y <;> simp_all
  rw [e, through_or, q]
  rfl
inductive Live (s : State) (v : Nat) : Nat → Prop
  | here {b : Nat} : b < s.length → through v (opsOf s b) ((endOf s b).uses v) = true → Live s v b
  | on {b c : Nat} : b < s.length → through v (opsOf s b) true = true → c ∈ behind s b → Live s v c → Live s v b
theorem Live.lt {s : State} {v b : Nat} (h : Live s v b) : b < s.length := by cases h <;> assumption
theorem mem_live {s : State} (hs : s.length ≤ 64) {v b : Nat} : b ∈ live s v ↔ Live s v b := by
  have hl : ∀ p c, p ∈ lets s v c ↔ p < s.length ∧ c ∈ behind s p ∧ through v (opsOf s p) true = true := fun p c => by
    unfold lets
    rw [List.mem_filter, List.mem_range]
    simp
  have h0 : ∀ b, b ∈ ((List.range s.length).filter fun b => through v (opsOf s b) ((endOf s b).uses v)) ↔ b < s.length ∧ through v (opsOf s b) ((endOf s b).uses v) = true := fun b => by
    rw [List.mem_filter, List.mem_range]
  unfold live
  rw [mem_ways (n := s.length) (fun x _ y hy => ((hl y x).mp hy).1) (List.nodup_range.filter _) (fun x hx => ((h0 x).mp hx).1) (by simp only [BLOCKS]; omega)]
  constructor
  · intro r
    induction r with
    | base m => exact .here ((h0 _).mp m).1 ((h0 _).mp m).2
    | step _ m ih =>
      obtain ⟨q1, q2, q3⟩ := (hl _ _).mp m
      exact .on q1 q3 q2 ih
  · intro r
    induction r with
    | here h1 h2 => exact .base ((h0 _).mpr ⟨h1, h2⟩)
    | on h1 h2 h3 _ ih => exact .step ih ((hl _ _).mpr ⟨h1, h3, h2⟩)
theorem in_iff {s : State} (hs : s.length ≤ 64) {v b : Nat} : in_ s b v = true ↔ Live s v b := by
  unfold in_
  rw [List.contains_iff_mem]
  exact mem_live hs
theorem Live.least {s : State} {v : Nat} {P : Nat → Prop} (h : ∀ b, b < s.length → ∀ r : Bool, (r = true → (endOf s b).uses v = true ∨ ∃ c ∈ behind s b, P c) → through v (opsOf s b) r = true → P b) {b : Nat} (q : Live s v b) : P b := by
  induction q with
  | here h1 h2 => exact h _ h1 _ (fun e => .inl e) h2
  | on h1 h2 h3 _ ih => exact h _ h1 true (fun _ => .inr ⟨_, h3, ih⟩) h2
theorem out_iff {s : State} (hs : s.length ≤ 64) {v b : Nat} : Sc12.out s b v = true ↔ ∃ c ∈ behind s b, Live s v c := by
  unfold Sc12.out
  rw [List.any_eq_true]
  exact ⟨fun ⟨c, h1, h2⟩ => ⟨c, h1, (in_iff hs).mp h2⟩, fun ⟨c, h1, h2⟩ => ⟨c, h1, (in_iff hs).mpr h2⟩⟩
theorem in_eq {s : State} (hs : s.length ≤ 64) {v b : Nat} (hb : b < s.length) : in_ s b v = through v (opsOf s b) ((endOf s b).uses v || Sc12.out s b v) := by
  rw [Bool.eq_iff_iff, in_iff hs]
  constructor
  · intro h
    cases h with
    | here _ h2 => exact through_mono (fun e => by rw [e]; rfl) h2
    | on _ h2 h3 h4 => exact through_mono (fun _ => by rw [(out_iff hs).mpr ⟨_, h3, h4⟩]; simp) h2
  · intro h
    rw [through_or, Bool.or_eq_true] at h
    rcases h with h | h
    · exact .here hb h
    · cases e : Sc12.out s b v with
      | true =>
        obtain ⟨c, h1, h2⟩ := (out_iff hs).mp e
        rw [e] at h
        exact .on hb h h1 h2
      | false =>
        rw [e] at h
        exact .here hb (through_mono (fun q => by cases q) h)
theorem mem_before {s : State} {p c : Nat} : p ∈ before s c ↔ p ∈ reached s ∧ c ∈ behind s p := by
  unfold before
  rw [List.mem_filter, List.contains_iff_mem]
theorem mem_front {s : State} {b c : Nat} : c ∈ front s b ↔ c < s.length ∧ (∃ p, p ∈ reached s ∧ c ∈ behind s p ∧ over s b p = true) ∧ (over s b c = false ∨ b = c) := by
  unfold front
  rw [List.mem_filter, List.mem_range]
  simp only [Bool.and_eq_true, List.any_eq_true, mem_before, Bool.not_eq_true', Bool.and_eq_false_iff, bne_eq_false_iff_eq]
  constructor
  · rintro ⟨h1, ⟨p, ⟨h2, h3⟩, h4⟩, h5⟩
    exact ⟨h1, ⟨p, h2, h3, h4⟩, h5⟩
  · rintro ⟨h1, ⟨p, h2, h3, h4⟩, h5⟩
    exact ⟨h1, ⟨p, ⟨h2, h3⟩, h4⟩, h5⟩
theorem front_reached {s : State} (hs : s.length ≤ 64) {b c : Nat} (h : c ∈ front s b) : c ∈ reached s := by
  obtain ⟨_, ⟨p, h2, h3, _⟩, _⟩ := mem_front.mp h
  exact reached_next hs h2 h3
def back (s : State) (b : Nat) : List Nat := (before s b).filter fun p => over s b p
theorem mem_back {s : State} {b p : Nat} : p ∈ back s b ↔ p ∈ reached s ∧ b ∈ behind s p ∧ over s b p = true := by
  unfold back
  rw [List.mem_filter, mem_before]
  constructor
  · rintro ⟨⟨h1, h2⟩, h3⟩; exact ⟨h1, h2, h3⟩
  · rintro ⟨h1, h2, h3⟩; exact ⟨⟨h1, h2⟩, h3⟩
def rback (s : State) (b x : Nat) : List Nat := if x = b then [] else before s x
theorem rback_lt {s : State} (hs : s.length ≤ 64) {b x y : Nat} (h : y ∈ rback s b x) : y < s.length := by
  unfold rback at h
  split at h
  · simp at h
  · exact reached_lt hs (mem_before.mp h).1
theorem mem_loop {s : State} (hs : s.length ≤ 64) {b x : Nat} : x ∈ loop s b ↔ (∃ p, p ∈ back s b) ∧ (x = b ∨ Reach (rback s b) (back s b) x) := by
  unfold loop
  show x ∈ (if (back s b).isEmpty = true then [] else b :: ways (rback s b) BLOCKS (back s b)) ↔ _
  split
  · rename_i h
    rw [List.isEmpty_iff.mp h]
    simp
  · rename_i h
    have hd : (back s b).Nodup := (nodup_reached.filter _).filter _
    rw [List.mem_cons, mem_ways (next := rback s b) (l := back s b) (k := BLOCKS) (n := s.length) (fun x _ y hy => rback_lt hs hy) hd (fun x hx => reached_lt hs (mem_back.mp hx).1) (by simp only [BLOCKS]; omega)]
    have : ∃ p, p ∈ back s b := by
      cases q : back s b with
      | nil => rw [q] at h; simp at h
      | cons p r => exact ⟨p, List.mem_cons_self ..⟩
    simp [this]
inductive Meet (s : State) (v : Nat) : Nat → Prop
  | seed {x b : Nat} : x ∈ reached s → (x = 0 ∨ gives s x v = true) → b ∈ front s x → in_ s b v = true → Meet s v b
  | on {x b : Nat} : Meet s v x → b ∈ front s x → in_ s b v = true → Meet s v b
theorem mem_meeting {s : State} {v x c : Nat} : c ∈ meeting s v x ↔ c ∈ front s x ∧ in_ s c v = true := by
  unfold meeting
  rw [List.mem_filter]
theorem meets_iff {s : State} (hs : s.length ≤ 64) {v b : Nat} : meets s b v = true ↔ Meet s v b := by
  unfold meets
  simp only [Bool.and_eq_true, List.contains_iff_mem, List.any_eq_true]
  have h0 : ∀ x, x ∈ ((reached s).filter fun x => x == 0 || gives s x v) ↔ x ∈ reached s ∧ (x = 0 ∨ gives s x v = true) := fun x => by
    rw [List.mem_filter]; simp
  have hw : ∀ x, x ∈ ways (meeting s v) BLOCKS ((reached s).filter fun x => x == 0 || gives s x v) ↔ Reach (meeting s v) ((reached s).filter fun x => x == 0 || gives s x v) x := fun x =>
    mem_ways (n := s.length) (fun x _ y hy => (mem_front.mp (mem_meeting.mp hy).1).1) (nodup_reached.filter _) (fun x hx => reached_lt hs ((h0 x).mp hx).1) (by simp only [BLOCKS]; omega) x
  constructor
  · rintro ⟨_, _, x, h3, h4⟩
    rw [hw] at h3
    rw [mem_meeting] at h4
    have q : ∀ {x}, Reach (meeting s v) ((reached s).filter fun x => x == 0 || gives s x v) x → (x ∈ reached s ∧ (x = 0 ∨ gives s x v = true)) ∨ Meet s v x := fun {x} r => by
      induction r with
      | base m => exact .inl ((h0 _).mp m)
      | step _ m ih =>
        rw [mem_meeting] at m
        rcases ih with ih | ih
        · exact .inr (.seed ih.1 ih.2 m.1 m.2)
        · exact .inr (.on ih m.1 m.2)
    rcases q h3 with q | q
    · exact .seed q.1 q.2 h4.1 h4.2
    · exact .on q h4.1 h4.2
  · intro h
    have q : ∃ x, Reach (meeting s v) ((reached s).filter fun x => x == 0 || gives s x v) x ∧ b ∈ meeting s v x := by
      induction h with
      | seed h1 h2 h3 h4 => exact ⟨_, .base ((h0 _).mpr ⟨h1, h2⟩), mem_meeting.mpr ⟨h3, h4⟩⟩
      | on _ h3 h4 ih =>
        obtain ⟨x, r, m⟩ := ih
        exact ⟨_, .step r m, mem_meeting.mpr ⟨h3, h4⟩⟩
    obtain ⟨x, r, m⟩ := q
    rw [mem_meeting] at m
    exact ⟨front_reached hs m.1, m.2, x, (hw x).mpr r, mem_meeting.mpr m⟩
end BF
end


section
namespace BF
open Sc12
def Push (s : State) (v w : Nat) : Prop := ∃ b i ins, b ∈ reached s ∧ (opsOf s b)[i]? = some ins ∧ ins.d = v ∧ through w ((opsOf s b).drop (i + 1)) ((endOf s b).uses w || Sc12.out s b w) = true ∧ ¬ (ins.op = 4 ∧ ins.x = w)
theorem pushes_iff {s : State} {v w : Nat} : pushes s v w (live s w) = true ↔ Push s v w := by
  have ho : ∀ b, ((behind s b).any fun c => (live s w).contains c) = Sc12.out s b w := fun b => rfl
  unfold pushes Push
  rw [List.any_eq_true]
  constructor
  · rintro ⟨b, hb, h⟩
    rw [List.any_eq_true] at h
    obtain ⟨⟨ins, i⟩, hm, h⟩ := h
    rw [List.mk_mem_zipIdx_iff_getElem?] at hm
    simp only [Bool.and_eq_true, beq_iff_eq, Bool.not_eq_true', Bool.and_eq_false_iff] at h
    refine ⟨b, i, ins, hb, hm, h.1, ?_, ?_⟩
    · have := h.2.1
      unfold after at this
      rw [ho] at this
      exact this
    · rintro ⟨e1, e2⟩
      rcases h.2.2 with q | q
      · rw [e1] at q; cases q
      · rw [e2] at q; simp at q
  · rintro ⟨b, i, ins, hb, hm, h1, h2, h3⟩
    refine ⟨b, hb, ?_⟩
    rw [List.any_eq_true]
    refine ⟨(ins, i), List.mk_mem_zipIdx_iff_getElem?.mpr hm, ?_⟩
    simp only [Bool.and_eq_true, beq_iff_eq, Bool.not_eq_true']
    refine ⟨h1, ?_, ?_⟩
    · unfold after
      rw [ho]
      exact h2
    · cases e : (ins.op == 4 && ins.x == w) with
      | false => rfl
      | true =>
        rw [Bool.and_eq_true, beq_iff_eq, beq_iff_eq] at e
        exact absurd e h3
theorem table_get {s : State} {v : Nat} (hv : v < 32) : (table s).getD v [] = live s v := by
  unfold table
  rw [List.getD_eq_getElem?_getD, List.getElem?_map, List.getElem?_range (by unfold VARS; exact hv)]
  rfl
theorem clashBy_iff {s : State} {v w : Nat} (hv : v < 32) (hw : w < 32) : clashBy s (table s) v w = true ↔ v ≠ w ∧ ((0 < s.length ∧ in_ s 0 v = true ∧ in_ s 0 w = true) ∨ Push s v w ∨ Push s w v) := by
  unfold clashBy
  rw [table_get hv, table_get hw]
  simp only [Bool.and_eq_true, bne_iff_ne, Bool.or_eq_true, pushes_iff, decide_eq_true_iff, or_assoc, and_assoc]
  rfl
theorem clash_symm {s : State} {v w : Nat} (hv : v < 32) (hw : w < 32) : clashBy s (table s) v w = clashBy s (table s) w v := by
  rw [Bool.eq_iff_iff, clashBy_iff hv hw, clashBy_iff hw hv]
  constructor
  · rintro ⟨h, a | a | a⟩
    · exact ⟨h.symm, .inl ⟨a.1, a.2.2, a.2.1⟩⟩
    · exact ⟨h.symm, .inr (.inr a)⟩
    · exact ⟨h.symm, .inr (.inl a)⟩
  · rintro ⟨h, a | a | a⟩
    · exact ⟨h.symm, .inl ⟨a.1, a.2.2, a.2.1⟩⟩
    · exact ⟨h.symm, .inr (.inr a)⟩
    · exact ⟨h.symm, .inr (.inl a)⟩
theorem least_spec (l : List Nat) : least l ∉ l ∧ ∀ j, j < least l → j ∈ l := by
  unfold least
  cases h : (List.range (l.length + 1)).find? fun i => !l.contains i with
  | none =>
    exfalso
    rw [List.find?_eq_none] at h
    have hs : ∀ x ∈ List.range (l.length + 1), x ∈ l := fun x hx => by
      have := h x hx
      simpa using this
    have := nodup_sub List.nodup_range hs
    rw [List.length_range] at this
    omega
  | some i =>
    rw [List.find?_range_eq_some] at h
    obtain ⟨h1, h2, h3⟩ := h
    refine ⟨by simpa using h1, fun j hj => ?_⟩
    have := h3 j hj
    simpa using this
theorem least_eq {l : List Nat} {i : Nat} (h1 : i ∉ l) (h2 : ∀ j, j < i → j ∈ l) : least l = i := by
  obtain ⟨a, b⟩ := least_spec l
  rcases Nat.lt_trichotomy (least l) i with h | h | h
  · exact absurd (h2 _ h) a
  · exact h
  · exact absurd (b _ h) h1
theorem registersBy_len (s : State) (t : List (List Nat)) : ∀ n, (registersBy s t n).length = n
  | 0 => rfl
  | n + 1 => by
    unfold registersBy
    simp [registersBy_len s t n]
theorem registersBy_succ (s : State) (t : List (List Nat)) (n : Nat) : registersBy s t (n + 1) = registersBy s t n ++ [least (((List.range n).filter fun w => clashBy s t n w).map fun w => (registersBy s t n).getD w 0)] := rfl
theorem registersBy_lt (s : State) (t : List (List Nat)) : ∀ n, ∀ r ∈ registersBy s t n, r < n
  | 0, r, h => by simp [registersBy] at h
  | n + 1, r, h => by
    rw [registersBy_succ, List.mem_append] at h
    rcases h with h | h
    · exact Nat.lt_succ_of_lt (registersBy_lt s t n r h)
    · rw [List.mem_singleton.mp h]
      obtain ⟨a, b⟩ := least_spec (((List.range n).filter fun w => clashBy s t n w).map fun w => (registersBy s t n).getD w 0)
      refine Classical.byContradiction fun hc => ?_
      have hs : ∀ x ∈ List.range (n + 1), x ∈ (((List.range n).filter fun w => clashBy s t n w).map fun w => (registersBy s t n).getD w 0) := fun x hx => b x (by rw [List.mem_range] at hx; omega)
      have h1 := nodup_sub List.nodup_range hs
      rw [List.length_range, List.length_map] at h1
      have h2 := List.length_filter_le (fun w => clashBy s t n w) (List.range n)
      rw [List.length_range] at h2
      omega
theorem taken_foldl (l : List Nat) : ∀ m, l.foldl (fun m r => max m (r + 1)) m = max m (taken l) := by
  unfold taken
  induction l with
  | nil => intro m; simp
  | cons a l ih =>
    intro m
    simp only [List.foldl_cons]
    rw [ih, ih (max 0 (a + 1))]
    omega
theorem taken_cons (a : Nat) (l : List Nat) : taken (a :: l) = max (a + 1) (taken l) := by
  show l.foldl (fun m r => max m (r + 1)) (max 0 (a + 1)) = _
  rw [taken_foldl]
  omega
theorem taken_append (l m : List Nat) : taken (l ++ m) = max (taken l) (taken m) := by
  unfold taken
  rw [List.foldl_append, taken_foldl]
  rfl
theorem taken_le {l : List Nat} {k : Nat} : taken l ≤ k ↔ ∀ r ∈ l, r < k := by
  induction l with
  | nil => simp [taken]
  | cons a l ih =>
    rw [taken_cons]
    simp only [List.mem_cons, forall_eq_or_imp]
    rw [← ih]
    omega
end BF
namespace BF
open Sc12
theorem bits_eq {n : Nat} {l : List Nat} (h : ∀ x, n.testBit x = true ↔ x ∈ l) (hl : ∀ x ∈ l, x < 64) : n = bits l BLOCKS := by
  refine eq_set fun i => ?_
  rw [Bool.eq_iff_iff, h i, Bool.and_eq_true, decide_eq_true_iff, List.contains_iff_mem]
  exact ⟨fun m => ⟨hl i m, m⟩, fun m => m.2⟩
theorem vars_eq {n : Nat} {f : Nat → Bool} (h : ∀ x, n.testBit x = true ↔ x < 32 ∧ f x = true) : n = Sc12.set VARS f := by
  refine eq_set fun i => ?_
  rw [Bool.eq_iff_iff, h i, Bool.and_eq_true, decide_eq_true_iff]
  rfl
theorem testBit_put (n b x : Nat) : (n ||| 2 ^ b).testBit x = true ↔ n.testBit x = true ∨ x = b := by
  rw [Nat.testBit_or, Nat.testBit_two_pow, Bool.or_eq_true, decide_eq_true_iff]
  exact ⟨fun h => h.imp id Eq.symm, fun h => h.imp id Eq.symm⟩
theorem testBit_orI (m n x : Nat) : (m ||| n).testBit x = true ↔ m.testBit x = true ∨ n.testBit x = true := by
  rw [Nat.testBit_or, Bool.or_eq_true]
theorem testBit_andI (m n x : Nat) : (m &&& n).testBit x = true ↔ m.testBit x = true ∧ n.testBit x = true := by
  rw [Nat.testBit_and, Bool.and_eq_true]
def less (m n : Nat) : Nat := m ^^^ (m &&& n)
theorem testBit_less (m n x : Nat) : (less m n).testBit x = true ↔ m.testBit x = true ∧ n.testBit x = false := by
  unfold less
  rw [Nat.testBit_xor, Nat.testBit_and]
  cases m.testBit x <;> cases n.testBit x <;> simp
end BF
end


section
set_option Elab.async false
set_option linter.all false
set_option maxRecDepth 100000
namespace BF
open PySem PySem.Spec PyProof.Rows L2
theorem bt_len : bootBuiltins "len" = some (.builtin "len") := by decide +kernel
theorem bt_all : bootBuiltins "all" = some (.builtin "all") := by decide +kernel
theorem bt_any : bootBuiltins "any" = some (.builtin "any") := by decide +kernel
theorem bt_max : bootBuiltins "max" = some (.builtin "max") := by decide +kernel
theorem bt_min : bootBuiltins "min" = some (.builtin "min") := by decide +kernel
theorem bt_sum : bootBuiltins "sum" = some (.builtin "sum") := by decide +kernel
theorem bt_sorted : bootBuiltins "sorted" = some (.builtin "sorted") := by decide +kernel
theorem bt_abs : bootBuiltins "abs" = some (.builtin "abs") := by decide +kernel
theorem bt_list : bootBuiltins "list" = some (.type "list") := by decide +kernel
theorem bt_tuple : bootBuiltins "tuple" = some (.type "tuple") := by decide +kernel
theorem bt_int : bootBuiltins "int" = some (.type "int") := by decide +kernel
theorem bt_bool : bootBuiltins "bool" = some (.type "bool") := by decide +kernel
section
variable (P : Program) (w : World) (K : PySem.W.Frag) (mg : Str → Option Value) (base : Heap)
structure Raw (x qual : Str) (st : Stmt) (ps : List Str) : Prop where
  ex : ∃ (f : Addr) (fd : FuncData), Fun K x qual st f fd ∧ mg x = some (.ref f) ∧ Binds K fd ps []
structure RawM (C : Addr) (x qual : Str) (st : Stmt) (ps : List Str) : Prop where
  ex : ∃ (f : Addr) (fd : FuncData), Fun K x qual st f fd ∧ Meth K C x f ∧ Binds K fd ps []
structure Def (k : Nat) (x : Str) (ps : List Str) (sp : Sp) : Prop where
  ex : ∃ (f : Addr) (fd : FuncData), FnOk P w K mg base CX0 k f fd ps sp ∧ mg x = some (.ref f) ∧ PySem.W.keepIn K (.ref f) = true ∧ Binds K fd ps []
structure DefM (k : Nat) (C : Addr) (x : Str) (ps : List Str) (sp : Sp) : Prop where
  ex : ∃ (f : Addr) (fd : FuncData), FnOk P w K mg base CX0 k f fd ps sp ∧ Meth K C x f ∧ Binds K fd ps []
structure DefC (k : Nat) (C : Addr) (x : Str) (ps : List Str) (sp : Sp) : Prop where
  ex : ∃ (f : Addr) (fd : FuncData), FnOk P w K mg base CX0 k f fd ps sp ∧ Mk K C f ∧ mg x = some (.ref C) ∧ Binds K fd ps []
def Val (x : Str) (v : V) : Prop := ∃ u, mg x = some u ∧ RelV v u
end
section
variable {P : Program} {w : World} {K : PySem.W.Frag} {mg : Str → Option Value} {base : Heap}
theorem Raw.def {x qual : Str} {st : Stmt} {ps N : List Str} {k : Nat} {sp : Sp} (R : Raw K mg x qual st ps) (S : FnScope N ps (defScope st)) (len : ∀ vs H Q E, sp vs H Q E → vs.length = ps.length)
    (hbody : ∀ (f : Addr) (cdv : Value) (A : Around) (outer : List Env) (s : Shared) (H : Hp) (vs : List V) (Q : VK) (E : XK), Room k (A.deeper (envOfC qual (defScope st) s.heap.objs.size f cdv)) → sp vs H Q E →
      ∃ t, PSs (cxOf CX0 P w K mg base N qual (defScope st) f cdv A outer s H E).nox (defBody st) t ∧ t { nx := fun _ H' => Q .non H', rt := Q } (start N vs) H) : Def P w K mg base (k + 1) x ps sp := by
  obtain ⟨f, fd, F, m, b⟩ := R.ex
  exact ⟨f, fd, F.ok S len (hbody f), m, F.kp, b⟩
theorem RawM.def {C : Addr} {x qual : Str} {st : Stmt} {ps N : List Str} {k : Nat} {sp : Sp} (R : RawM K C x qual st ps) (S : FnScope N ps (defScope st)) (len : ∀ vs H Q E, sp vs H Q E → vs.length = ps.length)
    (hbody : ∀ (f : Addr) (cdv : Value) (A : Around) (outer : List Env) (s : Shared) (H : Hp) (vs : List V) (Q : VK) (E : XK), Room k (A.deeper (envOfC qual (defScope st) s.heap.objs.size f cdv)) → sp vs H Q E →
      ∃ t, PSs (cxOf CX0 P w K mg base N qual (defScope st) f cdv A outer s H E).nox (defBody st) t ∧ t { nx := fun _ H' => Q .non H', rt := Q } (start N vs) H) : DefM P w K mg base (k + 1) C x ps sp := by
  obtain ⟨f, fd, F, m, b⟩ := R.ex
  exact ⟨f, fd, F.ok S len (hbody f), m, b⟩
theorem Def.imp {x : Str} {ps : List Str} {k : Nat} {sp sp' : Sp} (D : Def P w K mg base k x ps sp) (h : ∀ vs H Q E, sp' vs H Q E → sp vs H Q E) : Def P w K mg base k x ps sp' := by
  obtain ⟨f, fd, F, m, kp, b⟩ := D.ex
  exact ⟨f, fd, F.imp h, m, kp, b⟩
theorem DefM.imp {C : Addr} {x : Str} {ps : List Str} {k : Nat} {sp sp' : Sp} (D : DefM P w K mg base k C x ps sp) (h : ∀ vs H Q E, sp' vs H Q E → sp vs H Q E) : DefM P w K mg base k C x ps sp' := by
  obtain ⟨f, fd, F, m, b⟩ := D.ex
  exact ⟨f, fd, F.imp h, m, b⟩
end
section
variable {X : Cx} {k j : Nat} {x m : Str} {ps : List Str} {sp : Sp} {p pos apos : Pos} {e o : Expr} {es : List Expr} {ta : TE} {t : TA} {C : Addr}
theorem gl {v : V} (h : Val X.mg x v) (hg : Gl X x := by rfl) (hd : (x == ("__debug__" : Str)) = false := by decide) : PE X (.Name x pos) (tC v) := by
  obtain ⟨u, h1, h2⟩ := h
  exact pe_glob hg h1 h2 hd
theorem ix_listK {K : PySem.W.Frag} (h : X.K = K := by rfl) : IxR X (rIxL K) := h ▸ ix_list
theorem ix_tupK {K : PySem.W.Frag} (h : X.K = K := by rfl) : IxR X (rIxT K) := h ▸ ix_tup
theorem call_len_seqK {K : PySem.W.Frag} (h : X.K = K := by rfl) : CallR X (.builtin "len") (fun xs H Q => ∃ p ys, xs = [.ref p] ∧ (SqL K H p ys ∨ SqT K H p ys) ∧ Q (.int ys.length) H) := h ▸ call_len_seq
theorem cr_allK {K : PySem.W.Frag} (hc : X.calm = true) (h : X.K = K := by rfl) : CallR X (.builtin "all") (rAll K) := h ▸ cr_all hc
theorem cr_anyK {K : PySem.W.Frag} (hc : X.calm = true) (h : X.K = K := by rfl) : CallR X (.builtin "any") (rAny K) := h ▸ cr_any hc
theorem sl_listK {K : PySem.W.Frag} (h : X.K = K := by rfl) : SlR X (rSlL K) := h ▸ sl_list
theorem pe_fldK {K : PySem.W.Frag} {f : Str} (he : PE X e ta) (hb : attributeBase e f X.env (eval e X.env) = eval e X.env) (h : X.K = K := by rfl) : PE X (.Attribute e f pos) (tFld K ta f) := h ▸ pe_fld he hb
theorem pe_def (D : Def X.prog X.w X.K X.mg X.base k x ps sp) (hr : Room j X.A) (ha : PA X (e :: es) t) (hk : k ≤ j := by decide) (hg : Gl X x := by rfl) (hd : (x == ("__debug__" : Str)) = false := by decide)
    (he : starEach (e :: es) X.env = (false, eval e X.env) :: starEach es X.env := by rfl) (hpl : (backTo pos (starEach es X.env)).any (·.1) = false := by rfl) : PE X (.Call (.Name x p) (e :: es) [] pos) (tCall sp [] E0 t) := by
  obtain ⟨f, fd, F, m, kp, b⟩ := D.ex
  exact pe_call F (hr.mono hk) hg m kp b .nil pass0 ha hd he hpl
theorem pe_def0 (D : Def X.prog X.w X.K X.mg X.base k x ps sp) (hr : Room j X.A) (hk : k ≤ j := by decide) (hg : Gl X x := by rfl) (hd : (x == ("__debug__" : Str)) = false := by decide) : PE X (.Call (.Name x p) [] [] pos) (tCall sp [] E0 tNil) := by
  obtain ⟨f, fd, F, m, kp, b⟩ := D.ex
  exact pe_call0 F (hr.mono hk) hg m kp b .nil pass0 hd
theorem pe_dm {pl : Sem Bool} (ho : PE X o ta) (c : Cls X.K C) (D : DefM X.prog X.w X.K X.mg X.base k C m ps sp) (hr : Room j X.A) (ha : PA X (e :: es) t) (hk : k ≤ j := by decide)
    (hst : starEach (e :: es) X.env = (false, eval e X.env) :: starEach es X.env := by rfl) (hpl : (backTo pos (starEach es X.env)).any (·.1) = false := by rfl)
    (ht : eval (.Call (.Attribute o m apos) (e :: es) [] pos) X.env = (do
      let ov ← eval o X.env
      standAt apos.atName
      let (f, first) ← holding [ov] (getMethod ov m pl)
      callWith pos f first (backTo pos (starEach (e :: es) X.env)) (backToKw pos (keywordEach [] X.env))) := by rfl) :
    PE X (.Call (.Attribute o m apos) (e :: es) [] pos) (tMeth C m sp [] E0 ta t) := by
  obtain ⟨f, fd, F, me, b⟩ := D.ex
  exact pe_meth ho c me F (hr.mono hk) b .nil pass0 ha hst hpl ht
theorem pe_dm0 {pl : Sem Bool} (ho : PE X o ta) (c : Cls X.K C) (D : DefM X.prog X.w X.K X.mg X.base k C m ps sp) (hr : Room j X.A) (hk : k ≤ j := by decide)
    (ht : eval (.Call (.Attribute o m apos) [] [] pos) X.env = (do
      let ov ← eval o X.env
      standAt apos.atName
      let (f, first) ← holding [ov] (getMethod ov m pl)
      callWith pos f first (backTo pos (starEach [] X.env)) (backToKw pos (keywordEach [] X.env))) := by rfl) :
    PE X (.Call (.Attribute o m apos) [] [] pos) (tMeth C m sp [] E0 ta tNil) := by
  obtain ⟨f, fd, F, me, b⟩ := D.ex
  exact pe_meth0 ho c me F (hr.mono hk) b .nil pass0 ht
theorem pe_new0 (D : DefC X.prog X.w X.K X.mg X.base k C x ps sp) (hr : Room j X.A) (hk : k + 1 ≤ j := by decide) (hg : Gl X x := by rfl) (hd : (x == ("__debug__" : Str)) = false := by decide) : PE X (.Call (.Name x p) [] [] pos) (tMake C sp [] E0 tNil) := by
  obtain ⟨f, fd, F, M, m, b⟩ := D.ex
  exact pe_make0 M F (hr.mono hk) hg m b .nil pass0 hd
end
end BF
end


section
set_option Elab.async false
set_option linter.all false
set_option maxRecDepth 100000
namespace BF
open PySem PySem.Spec PyProof.Rows L2
section
variable {X : Cx}
theorem op_in_seqK {K : PySem.W.Frag} (h : X.K = K := by rfl) : OpR X (compareOp .In) (rIn K false) := h ▸ op_in_seq
def tLR (ta : TA) : TE := fun σ H Q => ta σ H fun vs H1 => ∃ n : Nat, vs = [.int (n : Int)] ∧ n ≤ 1000000 ∧ ∀ p, H1 p = none → Q (.ref p) (upd H1 p (.lst ((List.range n).map fun i : Nat => V.int (i : Int))))
theorem vals_range : ∀ (us : List Value) (k : Nat), (∀ (j : Nat) v, us[j]? = some v → ∃ t, v = Value.int ((k + j : Nat) : Int) t) → Vals ((List.range' k us.length).map fun i : Nat => V.int (i : Int)) us
  | [], k, h => .nil
  | u :: us, k, h => by
    rw [List.length_cons, List.range'_succ, List.map_cons]
    refine .cons ?_ (vals_range us (k + 1) fun j v e => ?_)
    · obtain ⟨t, e⟩ := h 0 u rfl
      exact ⟨t, by simpa using e⟩
    · obtain ⟨t, e⟩ := h (j + 1) v (by simpa using e)
      exact ⟨t, by rw [e]; congr 2; omega⟩
theorem pe_listRange {a : Expr} {ta : TA} {p p2 pos pos2 : Pos} (hg : Gl X "list") (hm : X.mg "list" = none) (hg2 : Gl X "range") (hm2 : X.mg "range" = none) (ha : PA X [a] ta) (hc : X.calm = true := by rfl) (hs : starEach [a] X.env = [(false, eval a X.env)] := by rfl)
    (hs2 : starEach [.Call (.Name "range" p2) [a] [] pos2] X.env = [(false, eval (.Call (.Name "range" p2) [a] [] pos2) X.env)] := by rfl) : PE X (.Call (.Name "list" p) [.Call (.Name "range" p2) [a] [] pos2] [] pos) (tLR ta) := by
  intro pins s σ H Q I h
  refine wpAny_Call_Name_kw (ld_blt I hg hm bt_list ?_)
  refine PyProof.Rows.callWith_type1 ?_ hs2 rfl
  rw [hs2]
  show wpAny _ _ (spliced ((false, eval (.Call (.Name "range" p2) [a] [] pos2) X.env) :: [])) _ _ s
  refine Calls.spliced_cons ?_
  refine wpAny_Call_Name_kw (ld_blt I hg2 hm2 boot_range (PyProof.Rows.callWith_type1 (thn (ha pos2 pins s σ H _ I h) fun us s1 ⟨vs, H1, I1, r1, q1⟩ => ?_) hs rfl))
  obtain ⟨n, e, hn, q⟩ := q1
  subst e
  cases r1 with
  | cons r rr =>
    cases rr
    obtain ⟨t, rfl⟩ := r
    refine call_range_1 (Calls.spliced_nil ?_)
    have I2 : Inv X pins σ H1 { s1 with heap := s1.heap.push { cls := .type "range", data := .fields #[.int 0 s1.toks, .int (n : Int) t, .int 1 (s1.toks + 1)] }, toks := s1.toks + 1 + 1 } := I1.kept fun b o e => Heap.get?_push_of_some _ e
    refine call_list_range (n := n) (I2.ok.hd hc) (IsRange.new ..) (small_one (by omega) (by omega) (by omega) (by omega)) (by rw [rangeSize_one]; split <;> omega) (by omega) fun h' tk acc c hk hD hI => ?_
    have hz : n ≤ sizeLine := Nat.le_trans hn (by decide)
    have rv : Vals ((List.range n).map fun i : Nat => V.int (i : Int)) acc.toList := by
      have := vals_range acc.toList 0 fun j v e => by
        obtain ⟨t, e⟩ := hI.2 j v (by simpa using e)
        exact ⟨t, by rw [e]; congr 1; omega⟩
      rw [Array.length_toList, hI.1, ← List.range_eq_range'] at this
      exact this
    exact ⟨.ref _, _, I2.laid (t' := tk) hk (Nat.le_refl _) (show ObjOk X.prog X.w _ h' _ (.lst _) from ⟨by simpa using hz, acc.toList, c, rv, by rw [Array.toArray_toList]; exact hD⟩), rfl, q _ (I2.hok.fresh (Nat.le_refl _))⟩
end
theorem for_enum {K : PySem.W.Frag} {a : Addr} {xs : List V} {g : TG} {tb : TS} {D : Ends} {σ : L2.St} {H : Hp} (Pv : Nat → L2.St → Hp → Prop) (h0 : Pv 0 σ H) (hl : ∀ i σ H, i ≤ xs.length → Pv i σ H → SqL K H a xs)
    (hs : ∀ i x σ H T, xs[i]? = some x → Pv i σ H → H T = none → g (.ref T) σ (upd H T (.tup [.int (i : Int), x])) fun σ2 H2 => tb { D with nx := Pv (i + 1), ct := Pv (i + 1), bk := D.nx } σ2 H2) (hd : ∀ σ H, Pv xs.length σ H → D.nx σ H) :
    ∃ W : Nat → Nat → L2.St → Hp → Prop, (∃ m, W 0 m σ H) ∧ ∀ i m σ H, W i m σ H →
      ((Ite K a).stop i H ∧ D.nx σ H) ∨ ((Ite K a).go i H ∧ ∃ N : L2.St → Hp → Prop, (∀ σ' H', N σ' H' → ∃ m', m' < m ∧ W (i + 1) m' σ' H') ∧ ∀ x H', (Ite K a).yld i H x H' → g x σ H' fun σ2 H2 => tb { D with nx := N, ct := N, bk := D.nx } σ2 H2) := by
  refine ⟨fun i m σ H => m = xs.length - i ∧ i ≤ xs.length ∧ Pv i σ H, ⟨xs.length, by simp, Nat.zero_le _, h0⟩, ?_⟩
  rintro i m σ H ⟨rfl, hi, p⟩
  have q := hl i σ H hi p
  by_cases hlt : i < xs.length
  · refine .inr ⟨⟨xs, xs[i], q, by simp [hlt]⟩, Pv (i + 1), fun σ' H' p' => ⟨xs.length - (i + 1), by omega, rfl, hlt, p'⟩, fun x H' y => ?_⟩
    obtain ⟨T, z, rfl, hT, rfl, y⟩ := y
    exact hs i z σ _ T (y xs q) p hT
  · have e : i = xs.length := by omega
    subst e
    exact .inl ⟨⟨xs, q, Nat.le_refl _⟩, hd σ H p⟩
theorem for_rev {K : PySem.W.Frag} {a : Addr} {xs : List V} {g : TG} {tb : TS} {D : Ends} {σ : L2.St} {H : Hp} (Pv : Nat → L2.St → Hp → Prop) (h0 : Pv 0 σ H) (hl : ∀ i σ H, i ≤ xs.length → Pv i σ H → SqL K H a xs)
    (hs : ∀ i x σ H, i < xs.length → xs[xs.length - 1 - i]? = some x → Pv i σ H → g x σ H fun σ2 H2 => tb { D with nx := Pv (i + 1), ct := Pv (i + 1), bk := D.nx } σ2 H2) (hd : ∀ σ H, Pv xs.length σ H → D.nx σ H) :
    ∃ W : Nat → Nat → L2.St → Hp → Prop, (∃ m, W 0 m σ H) ∧ ∀ i m σ H, W i m σ H →
      ((Itv K a xs.length).stop i H ∧ D.nx σ H) ∨ ((Itv K a xs.length).go i H ∧ ∃ N : L2.St → Hp → Prop, (∀ σ' H', N σ' H' → ∃ m', m' < m ∧ W (i + 1) m' σ' H') ∧ ∀ x H', (Itv K a xs.length).yld i H x H' → g x σ H' fun σ2 H2 => tb { D with nx := N, ct := N, bk := D.nx } σ2 H2) := by
  refine ⟨fun i m σ H => m = xs.length - i ∧ i ≤ xs.length ∧ Pv i σ H, ⟨xs.length, by simp, Nat.zero_le _, h0⟩, ?_⟩
  rintro i m σ H ⟨rfl, hi, p⟩
  have q := hl i σ H hi p
  by_cases hlt : i < xs.length
  · refine .inr ⟨⟨hlt, xs, xs[xs.length - 1 - i]'(by omega), q, List.getElem?_eq_getElem (by omega)⟩, Pv (i + 1), fun σ' H' p' => ⟨xs.length - (i + 1), by omega, rfl, hlt, p'⟩, fun x H' y => ?_⟩
    obtain ⟨e, y⟩ := y
    subst e
    exact hs i x σ _ hlt (y xs q) p
  · have e : i = xs.length := by omega
    subst e
    exact .inl ⟨Nat.le_refl _, hd σ H p⟩
theorem ite_tail {c : Bool} {t : TS} {D : Ends} {σ : L2.St} {H : Hp} (PP : L2.St → Hp → Prop) (tail : ∀ σ' H', PP σ' H' → D.nx σ' H') (h1 : c = true → ∀ nx' : L2.St → Hp → Prop, (∀ σ' H', PP σ' H' → nx' σ' H') → t { D with nx := nx' } σ H) (h2 : c = false → PP σ H) :
    if c = true then t D σ H else tNext D σ H := by
  cases c with
  | true => exact iteT (h1 rfl D.nx tail)
  | false => exact iteF (tail _ _ (h2 rfl))
end BF
end


section
set_option Elab.async false
set_option linter.all false
set_option maxRecDepth 100000
namespace BF
open PySem PySem.Spec PyProof.Rows L2
def EntryIs (p : Int × Int) (e : DictEntry) : Prop := e.hash = hashInt p.1 ∧ (∃ t, e.key = .int p.1 t) ∧ ∃ t, e.val = .int p.2 t
def TabK (K : PySem.W.Frag) (d : Addr) (kvs : List (Int × Int)) : Prop := ∃ (o : Obj) (es : Array DictEntry) (ep : Nat), K.lookup d = some o ∧ o.ExactDict ∧ o.data = .dict es ep ∧ Paired EntryIs kvs es.toList
theorem find_tab {P : Program} {w : World} {kvs : List (Int × Int)} {es : List DictEntry} (h : Paired EntryIs kvs es) {k v : Int} (hk : kvs.lookup k = some v) : ∃ t, (es.find? fun e => (intKind P w).is k e.key).map (·.val) = some (.int v t) := by
  induction h with
  | nil => simp at hk
  | @cons p e kvs es hp _ ih =>
    obtain ⟨h1, ⟨t, h2⟩, u, h3⟩ := hp
    obtain ⟨pk, pv⟩ := p
    have hi : (intKind P w).is k e.key = decide (k = pk) := by
      rw [h2]; exact KeyKind.is_eq_decide (intKind_is P w pk t) k
    rw [List.find?_cons, hi]
    rw [List.lookup_cons] at hk
    by_cases e : k = pk
    · subst e
      rw [show (k == k) = true from beq_self_eq_true k] at hk
      cases hk
      exact ⟨u, by simp [h3]⟩
    · rw [show (k == pk) = false from beq_eq_false_iff_ne.mpr e] at hk
      simp only [e, decide_false]
      exact ih hk
def rTab (K : PySem.W.Frag) : R2 := fun x y H Q => ∃ (d : Addr) (kvs : List (Int × Int)) (k v : Int), x = .ref d ∧ y = .int k ∧ TabK K d kvs ∧ kvs.lookup k = some v ∧ Q (.int v) H
theorem pe_tab {X : Cx} {o i : Expr} {to ti : TE} {pos : Pos} (ho : PE X o to) (hi : PE X i ti) (hs : NoSl i) : PE X (.Subscript o i pos) (tOp (rTab X.K) to ti) := by
  intro pins s σ H Q I h
  refine subD_of PySem.F.slot_dict_getitem.lookup hs (thn (ho pins s σ H _ I h) fun u s1 ⟨x, H1, I1, rx, q1⟩ => thn (hi pins s1 σ H1 _ I1 q1) fun iv s2 ⟨y, H2, I2, ry, d, kvs, k, v, ex, ey, ⟨ob, es, ep, l, xd, hd, pr⟩, lk, q2⟩ => ?_)
  subst ex ey
  obtain rfl : u = Value.ref d := rx
  obtain ⟨t, rfl⟩ := (show ∃ t, iv = Value.int k t from ry)
  have hg : s2.heap.get? d = some ob := I2.kIn d ob l
  have hm : s2.heap.MapOf (intKind X.prog X.w) d fun k => findBy (intKind X.prog X.w).is es k := by
    refine ⟨ob, es, ep, hg, xd, hd, fun e he => ?_, fun _ => rfl⟩
    have : ∀ {kvs : List (Int × Int)} {l : List DictEntry}, Paired EntryIs kvs l → ∀ e ∈ l, ∃ k, (intKind X.prog X.w).is k e.key = true ∧ e.hash = (intKind X.prog X.w).hash k := fun {kvs l} pr => by
      induction pr with
      | nil => intro e he; simp at he
      | cons hp _ ih =>
        intro e he
        rcases List.mem_cons.mp he with rfl | he
        · obtain ⟨h1, ⟨t, h2⟩, _⟩ := hp
          exact ⟨_, by rw [h2]; exact intKind_is _ _ _ _, h1⟩
        · exact ih e he
    exact this pr e (by simpa using he)
  obtain ⟨u, hu⟩ := find_tab (P := X.prog) (w := X.w) pr lk
  refine ⟨hm.typeIs, wpAny_getItem_of (v := .int v u) (intKind_is _ _ _ _) hm ?_ ⟨.int v, H2, I2.tok _, ⟨u, rfl⟩, q2⟩⟩
  show findBy _ es k = _
  unfold findBy
  first
    | exact hu
    | (rw [← Array.find?_toList]; exact hu)
end BF
end


section
set_option Elab.async false
set_option linter.all false
set_option maxRecDepth 100000
namespace BF
open PySem PySem.Spec PyProof.Rows L2
def top (i : Nat) : Stmt := PySem.Challenge.pw_blockflow_s01_answers.main.body.getD i (.Pass ⟨0, 0, 0, 0⟩)
abbrev s_is_variable : Stmt := top 14
abbrev s_is_goal : Stmt := top 15
abbrev s_reads_x : Stmt := top 16
abbrev s_reads_y : Stmt := top 17
abbrev s_is_step : Stmt := top 18
abbrev s_Block_new : Stmt := inClass (top 19) 0
abbrev s_Body_new : Stmt := inClass (top 20) 0
abbrev s_Body_init : Stmt := inClass (top 20) 1
abbrev s_Body_block : Stmt := inClass (top 20) 2
abbrev s_Body_has_block : Stmt := inClass (top 20) 3
abbrev s_Body_is_unended : Stmt := inClass (top 20) 4
abbrev s_Body_op : Stmt := inClass (top 20) 5
abbrev s_Body_jump : Stmt := inClass (top 20) 6
abbrev s_Body_branch : Stmt := inClass (top 20) 7
abbrev s_Body_ret : Stmt := inClass (top 20) 8
abbrev s_holds : Stmt := top 23
abbrev s_behind : Stmt := top 24
abbrev s_behind_each : Stmt := top 25
abbrev s_reached_without : Stmt := top 26
abbrev s_under : Stmt := top 27
abbrev s_under_each : Stmt := top 28
abbrev s_over : Stmt := top 29
abbrev s_idom : Stmt := top 30
abbrev s_used_by_step : Stmt := top 32
abbrev s_used_by_end : Stmt := top 33
abbrev s_given_by : Stmt := top 34
abbrev s_ahead_of_step : Stmt := top 35
abbrev s_used_first : Stmt := top 36
abbrev s_in_any : Stmt := top 37
abbrev s_in_each : Stmt := top 38
abbrev s_in_of : Stmt := top 39
abbrev s_out : Stmt := top 40
abbrev s_mark_steps : Stmt := top 43
abbrev s_both_ways : Stmt := top 44
abbrev s_clash_each : Stmt := top 45
abbrev s_clash : Stmt := top 46
abbrev s_least_free : Stmt := top 47
abbrev s_registers : Stmt := top 48
abbrev s_front_of : Stmt := top 50
abbrev s_front : Stmt := top 51
abbrev s_coming_to : Stmt := top 52
abbrev s_loop : Stmt := top 53
abbrev s_front_each : Stmt := top 55
abbrev s_made_each : Stmt := top 56
abbrev s_meet_each : Stmt := top 57
abbrev s_meet : Stmt := top 58
abbrev s_as_long : Stmt := top 64
abbrev s_step_value : Stmt := top 65
abbrev s_take_steps : Stmt := top 66
abbrev s_goal_of : Stmt := top 67
abbrev s_run : Stmt := top 68
abbrev s_changed : Stmt := top 87
abbrev s_found : Stmt := top 88
abbrev s_answer : Stmt := top 89
abbrev s_answers : Stmt := top 90
theorem sc_is_variable : FnScope ["v"] ["v"] (defScope s_is_variable) := ⟨rfl, rfl, rfl, by decide +kernel, rfl, by decide +kernel, by decide +kernel⟩
theorem sc_is_goal : FnScope ["to"] ["to"] (defScope s_is_goal) := ⟨rfl, rfl, rfl, by decide +kernel, rfl, by decide +kernel, by decide +kernel⟩
theorem sc_reads_x : FnScope ["op"] ["op"] (defScope s_reads_x) := ⟨rfl, rfl, rfl, by decide +kernel, rfl, by decide +kernel, by decide +kernel⟩
theorem sc_reads_y : FnScope ["op"] ["op"] (defScope s_reads_y) := ⟨rfl, rfl, rfl, by decide +kernel, rfl, by decide +kernel, by decide +kernel⟩
theorem sc_is_step : FnScope ["op", "d", "x", "y"] ["op", "d", "x", "y"] (defScope s_is_step) := ⟨rfl, rfl, rfl, by decide +kernel, rfl, by decide +kernel, by decide +kernel⟩
theorem sc_Block_new : FnScope ["self"] ["self"] (defScope s_Block_new) := ⟨rfl, rfl, rfl, by decide +kernel, rfl, by decide +kernel, by decide +kernel⟩
theorem sc_Body_new : FnScope ["self"] ["self"] (defScope s_Body_new) := ⟨rfl, rfl, rfl, by decide +kernel, rfl, by decide +kernel, by decide +kernel⟩
theorem sc_Body_init : FnScope ["self"] ["self"] (defScope s_Body_init) := ⟨rfl, rfl, rfl, by decide +kernel, rfl, by decide +kernel, by decide +kernel⟩
theorem sc_Body_block : FnScope ["self", "number"] ["self"] (defScope s_Body_block) := ⟨rfl, rfl, rfl, by decide +kernel, rfl, by decide +kernel, by decide +kernel⟩
theorem sc_Body_has_block : FnScope ["self", "b"] ["self", "b"] (defScope s_Body_has_block) := ⟨rfl, rfl, rfl, by decide +kernel, rfl, by decide +kernel, by decide +kernel⟩
theorem sc_Body_is_unended : FnScope ["self", "b"] ["self", "b"] (defScope s_Body_is_unended) := ⟨rfl, rfl, rfl, by decide +kernel, rfl, by decide +kernel, by decide +kernel⟩
theorem sc_Body_op : FnScope ["self", "b", "op", "d", "x", "y", "steps"] ["self", "b", "op", "d", "x", "y"] (defScope s_Body_op) := ⟨rfl, rfl, rfl, by decide +kernel, rfl, by decide +kernel, by decide +kernel⟩
theorem sc_Body_jump : FnScope ["self", "b", "to", "ended"] ["self", "b", "to"] (defScope s_Body_jump) := ⟨rfl, rfl, rfl, by decide +kernel, rfl, by decide +kernel, by decide +kernel⟩
theorem sc_Body_branch : FnScope ["self", "b", "v", "yes", "no", "ended"] ["self", "b", "v", "yes", "no"] (defScope s_Body_branch) := ⟨rfl, rfl, rfl, by decide +kernel, rfl, by decide +kernel, by decide +kernel⟩
theorem sc_Body_ret : FnScope ["self", "b", "v", "ended"] ["self", "b", "v"] (defScope s_Body_ret) := ⟨rfl, rfl, rfl, by decide +kernel, rfl, by decide +kernel, by decide +kernel⟩
theorem sc_holds : FnScope ["numbered", "i"] ["numbered", "i"] (defScope s_holds) := ⟨rfl, rfl, rfl, by decide +kernel, rfl, by decide +kernel, by decide +kernel⟩
theorem sc_behind : FnScope ["body", "b", "c"] ["body", "b"] (defScope s_behind) := ⟨rfl, rfl, rfl, by decide +kernel, rfl, by decide +kernel, by decide +kernel⟩
theorem sc_behind_each : FnScope ["body", "b"] ["body"] (defScope s_behind_each) := ⟨rfl, rfl, rfl, by decide +kernel, rfl, by decide +kernel, by decide +kernel⟩
theorem sc_reached_without : FnScope ["leads", "a", "found", "waiting", "b"] ["leads", "a"] (defScope s_reached_without) := ⟨rfl, rfl, rfl, by decide +kernel, rfl, by decide +kernel, by decide +kernel⟩
theorem sc_under : FnScope ["leads", "a"] ["leads", "a"] (defScope s_under) := ⟨rfl, rfl, rfl, by decide +kernel, rfl, by decide +kernel, by decide +kernel⟩
theorem sc_under_each : FnScope ["leads", "reached", "a"] ["leads"] (defScope s_under_each) := ⟨rfl, rfl, rfl, by decide +kernel, rfl, by decide +kernel, by decide +kernel⟩
theorem sc_over : FnScope ["body", "a", "b"] ["body", "a", "b"] (defScope s_over) := ⟨rfl, rfl, rfl, by decide +kernel, rfl, by decide +kernel, by decide +kernel⟩
theorem sc_idom : FnScope ["body", "b", "unders", "above", "c", "a"] ["body", "b"] (defScope s_idom) := ⟨rfl, rfl, rfl, by decide +kernel, rfl, by decide +kernel, by decide +kernel⟩
theorem sc_used_by_step : FnScope ["op", "x", "y", "used"] ["op", "x", "y"] (defScope s_used_by_step) := ⟨rfl, rfl, rfl, by decide +kernel, rfl, by decide +kernel, by decide +kernel⟩
theorem sc_used_by_end : FnScope ["block"] ["block"] (defScope s_used_by_end) := ⟨rfl, rfl, rfl, by decide +kernel, rfl, by decide +kernel, by decide +kernel⟩
theorem sc_given_by : FnScope ["block", "given", "op", "d", "x", "y"] ["block"] (defScope s_given_by) := ⟨rfl, rfl, rfl, by decide +kernel, rfl, by decide +kernel, by decide +kernel⟩
theorem sc_ahead_of_step : FnScope ["live", "op", "d", "x", "y"] ["live", "op", "d", "x", "y"] (defScope s_ahead_of_step) := ⟨rfl, rfl, rfl, by decide +kernel, rfl, by decide +kernel, by decide +kernel⟩
theorem sc_used_first : FnScope ["block", "live", "op", "d", "x", "y"] ["block"] (defScope s_used_first) := ⟨rfl, rfl, rfl, by decide +kernel, rfl, by decide +kernel, by decide +kernel⟩
theorem sc_in_any : FnScope ["ins", "goals", "found", "c"] ["ins", "goals"] (defScope s_in_any) := ⟨rfl, rfl, rfl, by decide +kernel, rfl, by decide +kernel, by decide +kernel⟩
theorem sc_in_each : FnScope ["body", "leads", "ins", "passed", "grown", "b", "live", "block"] ["body"] (defScope s_in_each) := ⟨rfl, rfl, rfl, by decide +kernel, rfl, by decide +kernel, by decide +kernel⟩
theorem sc_in_of : FnScope ["body", "b"] ["body", "b"] (defScope s_in_of) := ⟨rfl, rfl, rfl, by decide +kernel, rfl, by decide +kernel, by decide +kernel⟩
theorem sc_out : FnScope ["body", "b"] ["body", "b"] (defScope s_out) := ⟨rfl, rfl, rfl, by decide +kernel, rfl, by decide +kernel, by decide +kernel⟩
theorem sc_mark_steps : FnScope ["clashes", "block", "live", "op", "d", "x", "y", "others"] ["clashes", "block", "live"] (defScope s_mark_steps) := ⟨rfl, rfl, rfl, by decide +kernel, rfl, by decide +kernel, by decide +kernel⟩
theorem sc_both_ways : FnScope ["clashes", "found", "v", "with_v", "w"] ["clashes"] (defScope s_both_ways) := ⟨rfl, rfl, rfl, by decide +kernel, rfl, by decide +kernel, by decide +kernel⟩
theorem sc_clash_each : FnScope ["body", "leads", "ins", "reached", "first", "clashes", "b", "block", "v"] ["body"] (defScope s_clash_each) := ⟨rfl, rfl, rfl, by decide +kernel, rfl, by decide +kernel, by decide +kernel⟩
theorem sc_clash : FnScope ["body", "v"] ["body", "v"] (defScope s_clash) := ⟨rfl, rfl, rfl, by decide +kernel, rfl, by decide +kernel, by decide +kernel⟩
theorem sc_least_free : FnScope ["taken", "place"] ["taken"] (defScope s_least_free) := ⟨rfl, rfl, rfl, by decide +kernel, rfl, by decide +kernel, by decide +kernel⟩
theorem sc_registers : FnScope ["body", "k", "clashes", "places", "v", "many", "w"] ["body", "k"] (defScope s_registers) := ⟨rfl, rfl, rfl, by decide +kernel, rfl, by decide +kernel, by decide +kernel⟩
theorem sc_front_of : FnScope ["leads", "below", "b", "found", "p", "goals", "c"] ["leads", "below", "b"] (defScope s_front_of) := ⟨rfl, rfl, rfl, by decide +kernel, rfl, by decide +kernel, by decide +kernel⟩
theorem sc_front : FnScope ["body", "b", "leads"] ["body", "b"] (defScope s_front) := ⟨rfl, rfl, rfl, by decide +kernel, rfl, by decide +kernel, by decide +kernel⟩
theorem sc_coming_to : FnScope ["leads", "goals", "b", "found", "waiting", "c", "p"] ["leads", "goals", "b"] (defScope s_coming_to) := ⟨rfl, rfl, rfl, by decide +kernel, rfl, by decide +kernel, by decide +kernel⟩
theorem sc_loop : FnScope ["body", "b", "leads", "below", "turning", "p"] ["body", "b"] (defScope s_loop) := ⟨rfl, rfl, rfl, by decide +kernel, rfl, by decide +kernel, by decide +kernel⟩
theorem sc_front_each : FnScope ["leads", "fronts", "b", "below", "found", "c"] ["leads"] (defScope s_front_each) := ⟨rfl, rfl, rfl, by decide +kernel, rfl, by decide +kernel, by decide +kernel⟩
theorem sc_made_each : FnScope ["body", "made", "block"] ["body"] (defScope s_made_each) := ⟨rfl, rfl, rfl, by decide +kernel, rfl, by decide +kernel, by decide +kernel⟩
theorem sc_meet_each : FnScope ["body", "fronts", "ins", "made", "meets", "waiting", "c", "b", "met", "block"] ["body"] (defScope s_meet_each) := ⟨rfl, rfl, rfl, by decide +kernel, rfl, by decide +kernel, by decide +kernel⟩
theorem sc_meet : FnScope ["body", "b"] ["body", "b"] (defScope s_meet) := ⟨rfl, rfl, rfl, by decide +kernel, rfl, by decide +kernel, by decide +kernel⟩
theorem sc_as_long : FnScope ["number"] ["number"] (defScope s_as_long) := ⟨rfl, rfl, rfl, by decide +kernel, rfl, by decide +kernel, by decide +kernel⟩
theorem sc_step_value : FnScope ["values", "op", "x", "y"] ["values", "op", "x", "y"] (defScope s_step_value) := ⟨rfl, rfl, rfl, by decide +kernel, rfl, by decide +kernel, by decide +kernel⟩
theorem sc_take_steps : FnScope ["values", "steps", "op", "d", "x", "y"] ["values", "steps"] (defScope s_take_steps) := ⟨rfl, rfl, rfl, by decide +kernel, rfl, by decide +kernel, by decide +kernel⟩
theorem sc_goal_of : FnScope ["block", "values"] ["block", "values"] (defScope s_goal_of) := ⟨rfl, rfl, rfl, by decide +kernel, rfl, by decide +kernel, by decide +kernel⟩
theorem sc_run : FnScope ["body", "steps", "given", "values", "left", "b", "block"] ["body", "steps", "given"] (defScope s_run) := ⟨rfl, rfl, rfl, by decide +kernel, rfl, by decide +kernel, by decide +kernel⟩
theorem sc_changed : FnScope ["body", "call", "numbers"] ["body", "call", "numbers"] (defScope s_changed) := ⟨rfl, rfl, rfl, by decide +kernel, rfl, by decide +kernel, by decide +kernel⟩
theorem sc_found : FnScope ["body", "call", "number"] ["body", "call", "number"] (defScope s_found) := ⟨rfl, rfl, rfl, by decide +kernel, rfl, by decide +kernel, by decide +kernel⟩
theorem sc_answer : FnScope ["body", "call", "numbers", "row"] ["body", "call", "numbers", "row"] (defScope s_answer) := ⟨rfl, rfl, rfl, by decide +kernel, rfl, by decide +kernel, by decide +kernel⟩
theorem sc_answers : FnScope ["calls", "body", "given", "place", "call", "past", "numbers", "row", "told"] ["calls"] (defScope s_answers) := ⟨rfl, rfl, rfl, by decide +kernel, rfl, by decide +kernel, by decide +kernel⟩
structure Ad where
  Block : Addr
  Body : Addr
  NUMBERS_OF : Addr
structure Txt (K : PySem.W.Frag) (mg : Str → Option Value) (A : Ad) : Prop where
  c_REFUSED : Val mg "REFUSED" (.int (-2))
  c_MOST_BLOCKS : Val mg "MOST_BLOCKS" (.int (64))
  c_MOST_STEPS : Val mg "MOST_STEPS" (.int (16))
  c_VARIABLES : Val mg "VARIABLES" (.int (32))
  c_ADD : Val mg "ADD" (.int (0))
  c_SUBTRACT : Val mg "SUBTRACT" (.int (1))
  c_LESS : Val mg "LESS" (.int (3))
  c_COPY : Val mg "COPY" (.int (4))
  c_NUMBER : Val mg "NUMBER" (.int (5))
  c_NO_END : Val mg "NO_END" (.int (0))
  c_JUMP_END : Val mg "JUMP_END" (.int (1))
  c_BRANCH_END : Val mg "BRANCH_END" (.int (2))
  c_RET_END : Val mg "RET_END" (.int (3))
  c_NO_BLOCK : Val mg "NO_BLOCK" (.int (-1))
  c_TOO_FEW : Val mg "TOO_FEW" (.int (-1))
  c_USED_UP : Val mg "USED_UP" (.int (-1))
  c_NO_WAY_ON : Val mg "NO_WAY_ON" (.int (-3))
  c_ALL_LONGS : Val mg "ALL_LONGS" (.int (18446744073709551616))
  c_LONGS_FROM_0 : Val mg "LONGS_FROM_0" (.int (9223372036854775808))
  c_INIT : Val mg "INIT" (.int (0))
  c_BLOCK : Val mg "BLOCK" (.int (1))
  c_OP : Val mg "OP" (.int (2))
  c_JUMP : Val mg "JUMP" (.int (3))
  c_BRANCH : Val mg "BRANCH" (.int (4))
  c_RET : Val mg "RET" (.int (5))
  c_OVER : Val mg "OVER" (.int (6))
  c_IDOM : Val mg "IDOM" (.int (7))
  c_FRONT : Val mg "FRONT" (.int (8))
  c_LOOP : Val mg "LOOP" (.int (9))
  c_IN_OF : Val mg "IN_OF" (.int (10))
  c_OUT : Val mg "OUT" (.int (11))
  c_MEET : Val mg "MEET" (.int (12))
  c_CLASH : Val mg "CLASH" (.int (13))
  c_REGISTERS : Val mg "REGISTERS" (.int (14))
  c_RUN : Val mg "RUN" (.int (15))
  b_all : mg "all" = none
  b_enumerate : mg "enumerate" = none
  b_len : mg "len" = none
  b_list : mg "list" = none
  b_max : mg "max" = none
  b_range : mg "range" = none
  b_reversed : mg "reversed" = none
  t_NUMBERS_OF : Val mg "NUMBERS_OF" (.ref A.NUMBERS_OF)
  x_NUMBERS_OF : ∀ H : Hp, SqT K H A.NUMBERS_OF ([0, 0, 5, 2, 4, 2, 2, 1, 1, 1, 1, 1, 1, 1, 1, 1].map V.int)
  cl_Block : Cls K A.Block
  na_Block_steps : NoAttr K A.Block "steps"
  na_Block_end : NoAttr K A.Block "end"
  na_Block_variable : NoAttr K A.Block "variable"
  na_Block_goals : NoAttr K A.Block "goals"
  cl_Body : Cls K A.Body
  na_Body_blocks : NoAttr K A.Body "blocks"
  r_is_variable : Raw K mg "is_variable" "is_variable" s_is_variable ["v"]
  r_is_goal : Raw K mg "is_goal" "is_goal" s_is_goal ["to"]
  r_reads_x : Raw K mg "reads_x" "reads_x" s_reads_x ["op"]
  r_reads_y : Raw K mg "reads_y" "reads_y" s_reads_y ["op"]
  r_is_step : Raw K mg "is_step" "is_step" s_is_step ["op", "d", "x", "y"]
  r_Block_new : ∃ (f : Addr) (fd : FuncData), Fun K "__init__" "Block.__init__" s_Block_new f fd ∧ Mk K A.Block f ∧ mg "Block" = some (.ref A.Block) ∧ Binds K fd ["self"] []
  r_Body_new : ∃ (f : Addr) (fd : FuncData), Fun K "__init__" "Body.__init__" s_Body_new f fd ∧ Mk K A.Body f ∧ mg "Body" = some (.ref A.Body) ∧ Binds K fd ["self"] []
  r_Body_init : RawM K A.Body "init" "Body.init" s_Body_init ["self"]
  r_Body_block : RawM K A.Body "block" "Body.block" s_Body_block ["self"]
  r_Body_has_block : RawM K A.Body "has_block" "Body.has_block" s_Body_has_block ["self", "b"]
  r_Body_is_unended : RawM K A.Body "is_unended" "Body.is_unended" s_Body_is_unended ["self", "b"]
  r_Body_op : RawM K A.Body "op" "Body.op" s_Body_op ["self", "b", "op", "d", "x", "y"]
  r_Body_jump : RawM K A.Body "jump" "Body.jump" s_Body_jump ["self", "b", "to"]
  r_Body_branch : RawM K A.Body "branch" "Body.branch" s_Body_branch ["self", "b", "v", "yes", "no"]
  r_Body_ret : RawM K A.Body "ret" "Body.ret" s_Body_ret ["self", "b", "v"]
  r_holds : Raw K mg "holds" "holds" s_holds ["numbered", "i"]
  r_behind : Raw K mg "behind" "behind" s_behind ["body", "b"]
  r_behind_each : Raw K mg "behind_each" "behind_each" s_behind_each ["body"]
  r_reached_without : Raw K mg "reached_without" "reached_without" s_reached_without ["leads", "a"]
  r_under : Raw K mg "under" "under" s_under ["leads", "a"]
  r_under_each : Raw K mg "under_each" "under_each" s_under_each ["leads"]
  r_over : Raw K mg "over" "over" s_over ["body", "a", "b"]
  r_idom : Raw K mg "idom" "idom" s_idom ["body", "b"]
  r_used_by_step : Raw K mg "used_by_step" "used_by_step" s_used_by_step ["op", "x", "y"]
  r_used_by_end : Raw K mg "used_by_end" "used_by_end" s_used_by_end ["block"]
  r_given_by : Raw K mg "given_by" "given_by" s_given_by ["block"]
  r_ahead_of_step : Raw K mg "ahead_of_step" "ahead_of_step" s_ahead_of_step ["live", "op", "d", "x", "y"]
  r_used_first : Raw K mg "used_first" "used_first" s_used_first ["block"]
  r_in_any : Raw K mg "in_any" "in_any" s_in_any ["ins", "goals"]
  r_in_each : Raw K mg "in_each" "in_each" s_in_each ["body"]
  r_in_of : Raw K mg "in_of" "in_of" s_in_of ["body", "b"]
  r_out : Raw K mg "out" "out" s_out ["body", "b"]
  r_mark_steps : Raw K mg "mark_steps" "mark_steps" s_mark_steps ["clashes", "block", "live"]
  r_both_ways : Raw K mg "both_ways" "both_ways" s_both_ways ["clashes"]
  r_clash_each : Raw K mg "clash_each" "clash_each" s_clash_each ["body"]
  r_clash : Raw K mg "clash" "clash" s_clash ["body", "v"]
  r_least_free : Raw K mg "least_free" "least_free" s_least_free ["taken"]
  r_registers : Raw K mg "registers" "registers" s_registers ["body", "k"]
  r_front_of : Raw K mg "front_of" "front_of" s_front_of ["leads", "below", "b"]
  r_front : Raw K mg "front" "front" s_front ["body", "b"]
  r_coming_to : Raw K mg "coming_to" "coming_to" s_coming_to ["leads", "goals", "b"]
  r_loop : Raw K mg "loop" "loop" s_loop ["body", "b"]
  r_front_each : Raw K mg "front_each" "front_each" s_front_each ["leads"]
  r_made_each : Raw K mg "made_each" "made_each" s_made_each ["body"]
  r_meet_each : Raw K mg "meet_each" "meet_each" s_meet_each ["body"]
  r_meet : Raw K mg "meet" "meet" s_meet ["body", "b"]
  r_as_long : Raw K mg "as_long" "as_long" s_as_long ["number"]
  r_step_value : Raw K mg "step_value" "step_value" s_step_value ["values", "op", "x", "y"]
  r_take_steps : Raw K mg "take_steps" "take_steps" s_take_steps ["values", "steps"]
  r_goal_of : Raw K mg "goal_of" "goal_of" s_goal_of ["block", "values"]
  r_run : Raw K mg "run" "run" s_run ["body", "steps", "given"]
  r_changed : Raw K mg "changed" "changed" s_changed ["body", "call", "numbers"]
  r_found : Raw K mg "found" "found" s_found ["body", "call", "number"]
  r_answer : Raw K mg "answer" "answer" s_answer ["body", "call", "numbers", "row"]
  r_answers : Raw K mg "answers" "answers" s_answers ["calls"]
end BF
end


section
set_option Elab.async false
set_option linter.all false
set_option maxRecDepth 100000
set_option maxHeartbeats 0
namespace BF
open PySem PySem.W PyProof.Rows L2
abbrev pw : Program := PySem.Challenge.pw_blockflow_s01_answers
abbrev kh (P : Params) (s : Str) : Int := PyData.keyHash P s
abbrev kE (P : Params) (s : Str) (t : Tok) (v : Value) : DictEntry := ⟨PyData.keyHash P s, .str s t, v⟩
abbrev i0 (n : Int) : Value := .int n 0
abbrev kFn (nm ql : Str) (st : Stmt) (pm : Value) (cd : Addr) : Obj := ⟨.type "function", none, .func (fnOf nm ql (defArgs st) (defBody st) (defScope st) .none .none .none pm none (.ref cd) .none), #[]⟩
abbrev kCd (nm : Str) (t1 : Tok) (ql : Str) (t2 t3 : Tok) (l : List Value) : Obj := ⟨.type "code", none, .fields (.str nm t1 :: .str ql t2 :: .str "/claim/cut.py" t3 :: l).toArray, #[]⟩
noncomputable def vw : Program := { pw with main := { pw.main with body := [top 1, top 2, top 3, top 4, top 5, top 6, top 7, top 8, top 9, top 10, top 11, top 12, top 13, top 14, top 15, top 16, top 17, top 18, top 19, top 20, top 22, top 23, top 24, top 25, top 26, top 27, top 28, top 29, top 30, top 32, top 33, top 34, top 35, top 36, top 37, top 38, top 39, top 40, top 42, top 43, top 44, top 45, top 46, top 47, top 48, top 50, top 51, top 52, top 53, top 55, top 56, top 57, top 58, top 60, top 61, top 62, top 63, top 64, top 65, top 66, top 67, top 68, top 70, top 71, top 72, top 73, top 74, top 75, top 76, top 77, top 78, top 79, top 80, top 81, top 82, top 83, top 84, top 85, top 86, top 87, top 88, top 89, top 90] } }
noncomputable def kK (P : Params) : Frag := (nat_lit 2, (Obj.mk .none none (Data.dict [].toArray 0) [].toArray)) ::
  (nat_lit 3, (Obj.mk (.type "dict") none (Data.dict [(kE P "__name__" 165 (.str "blockflow.desk" 724)), (kE P "__doc__" 166 .none), (kE P "__package__" 167 .none), (kE P "__loader__" 168 (.builtin "__main__.__loader__#opaque")), (kE P "__spec__" 169 .none), (kE P "__annotations__" 170 (.ref 6)), (kE P "__builtins__" 171 (.ref 4)), (kE P "__file__" 173 (.str "/claim/cut.py" 172)), (kE P "__cached__" 174 .none), (kE P "REFUSED" 191 (.int (-2) 190)), (kE P "MOST_BLOCKS" 193 (.int 64 192)), (kE P "MOST_STEPS" 195 (.int 16 194)), (kE P "VARIABLES" 197 (.int 32 196)), (kE P "ADD" 199 (.int 0 198)), (kE P "SUBTRACT" 201 (.int 1 200)), (kE P "LESS" 203 (.int 3 202)), (kE P "COPY" 205 (.int 4 204)), (kE P "NUMBER" 207 (.int 5 206)), (kE P "NO_END" 209 (.int 0 208)), (kE P "JUMP_END" 211 (.int 1 210)), (kE P "BRANCH_END" 213 (.int 2 212)), (kE P "RET_END" 215 (.int 3 214)), (kE P "is_variable" 222 (.ref 21)), (kE P "is_goal" 229 (.ref 28)), (kE P "reads_x" 236 (.ref 35)), (kE P "reads_y" 243 (.ref 42)), (kE P "is_step" 253 (.ref 49)), (kE P "Block" 284 (.ref 66)), (kE P "Body" 388 (.ref 143)), (kE P "NO_BLOCK" 393 (.int (-1) 392)), (kE P "holds" 401 (.ref 154)), (kE P "behind" 407 (.ref 159)), (kE P "behind_each" 413 (.ref 164)), (kE P "reached_without" 424 (.ref 171)), (kE P "under" 432 (.ref 178)), (kE P "under_each" 438 (.ref 183)), (kE P "over" 447 (.ref 190)), (kE P "idom" 453 (.ref 195)), (kE P "used_by_step" 465 (.ref 202)), (kE P "used_by_end" 472 (.ref 209)), (kE P "given_by" 484 (.ref 216)), (kE P "ahead_of_step" 495 (.ref 223)), (kE P "used_first" 507 (.ref 230)), (kE P "in_any" 517 (.ref 237)), (kE P "in_each" 523 (.ref 242)), (kE P "in_of" 531 (.ref 249)), (kE P "out" 539 (.ref 256)), (kE P "TOO_FEW" 544 (.int (-1) 543)), (kE P "mark_steps" 558 (.ref 263)), (kE P "both_ways" 569 (.ref 270)), (kE P "clash_each" 575 (.ref 275)), (kE P "clash" 583 (.ref 282)), (kE P "least_free" 591 (.ref 289)), (kE P "registers" 597 (.ref 294)), (kE P "front_of" 612 (.ref 301)), (kE P "front" 621 (.ref 308)), (kE P "coming_to" 627 (.ref 313)), (kE P "loop" 633 (.ref 318)), (kE P "front_each" 641 (.ref 323)), (kE P "made_each" 647 (.ref 328)), (kE P "meet_each" 653 (.ref 333)), (kE P "meet" 661 (.ref 340)), (kE P "USED_UP" 666 (.int (-1) 665)), (kE P "NO_WAY_ON" 669 (.int (-3) 668)), (kE P "ALL_LONGS" 671 (.int 18446744073709551616 670)), (kE P "LONGS_FROM_0" 673 (.int 9223372036854775808 672)), (kE P "as_long" 680 (.ref 347)), (kE P "step_value" 690 (.ref 354)), (kE P "take_steps" 702 (.ref 361)), (kE P "goal_of" 710 (.ref 368)), (kE P "run" 723 (.ref 375)), (kE P "INIT" 727 (.int 0 726)), (kE P "BLOCK" 729 (.int 1 728)), (kE P "OP" 731 (.int 2 730)), (kE P "JUMP" 733 (.int 3 732)), (kE P "BRANCH" 735 (.int 4 734)), (kE P "RET" 737 (.int 5 736)), (kE P "OVER" 739 (.int 6 738)), (kE P "IDOM" 741 (.int 7 740)), (kE P "FRONT" 743 (.int 8 742)), (kE P "LOOP" 745 (.int 9 744)), (kE P "IN_OF" 747 (.int 10 746)), (kE P "OUT" 749 (.int 11 748)), (kE P "MEET" 751 (.int 12 750)), (kE P "CLASH" 753 (.int 13 752)), (kE P "REGISTERS" 755 (.int 14 754)), (kE P "RUN" 757 (.int 15 756)), (kE P "NUMBERS_OF" 774 (.ref 376)), (kE P "changed" 783 (.ref 383)), (kE P "found" 792 (.ref 390)), (kE P "answer" 802 (.ref 397)), (kE P "answers" 817 (.ref 404))].toArray 92) [].toArray)) ::
  (nat_lit 20, (kCd "is_variable" 216 "is_variable" 217 218 [i0 15, i0 1, i0 0, i0 0, i0 3, .ref 15, .bool true, i0 181, .ref 16, .none, .ref 17, .ref 18, .ref 19, i0 220, i0 15, (.str "/claim/cut.py" 221)])) ::
  (nat_lit 21, (kFn "is_variable" "is_variable" s_is_variable (.str "blockflow.body" 187) 20)) ::
  (nat_lit 27, (kCd "is_goal" 223 "is_goal" 224 225 [i0 17, i0 1, i0 0, i0 0, i0 3, .ref 22, .bool true, i0 181, .ref 23, .none, .ref 24, .ref 25, .ref 26, i0 227, i0 17, (.str "/claim/cut.py" 228)])) ::
  (nat_lit 28, (kFn "is_goal" "is_goal" s_is_goal (.str "blockflow.body" 187) 27)) ::
  (nat_lit 34, (kCd "reads_x" 230 "reads_x" 231 232 [i0 19, i0 1, i0 0, i0 0, i0 3, .ref 29, .bool true, i0 181, .ref 30, .none, .ref 31, .ref 32, .ref 33, i0 234, i0 19, (.str "/claim/cut.py" 235)])) ::
  (nat_lit 35, (kFn "reads_x" "reads_x" s_reads_x (.str "blockflow.body" 187) 34)) ::
  (nat_lit 41, (kCd "reads_y" 237 "reads_y" 238 239 [i0 21, i0 1, i0 0, i0 0, i0 3, .ref 36, .bool true, i0 181, .ref 37, .none, .ref 38, .ref 39, .ref 40, i0 241, i0 21, (.str "/claim/cut.py" 242)])) ::
  (nat_lit 42, (kFn "reads_y" "reads_y" s_reads_y (.str "blockflow.body" 187) 41)) ::
  (nat_lit 48, (kCd "is_step" 244 "is_step" 245 246 [i0 23, i0 4, i0 0, i0 0, i0 3, .ref 43, .bool true, i0 181, .ref 44, .none, .ref 45, .ref 46, .ref 47, i0 251, i0 23, (.str "/claim/cut.py" 252)])) ::
  (nat_lit 49, (kFn "is_step" "is_step" s_is_step (.str "blockflow.body" 187) 48)) ::
  (nat_lit 62, (kCd "__init__" 266 "Block.__init__" 267 268 [i0 31, i0 1, i0 0, i0 0, i0 3, .ref 57, .bool true, i0 181, .ref 58, .none, .ref 59, .ref 60, .ref 61, i0 270, i0 31, (.str "/claim/cut.py" 271)])) ::
  (nat_lit 63, (kFn "__init__" "Block.__init__" s_Block_new (.str "blockflow.body" 187) 62)) ::
  (nat_lit 65, (Obj.mk (.type "dict") none (Data.dict [(kE P "__module__" 261 (.str "blockflow.body" 187)), (kE P "__firstlineno__" 265 (.int 29 264)), (kE P "__init__" 272 (.ref 63)), (kE P "__static_attributes__" 277 (.ref 64)), (kE P "__dict__" 279 (.ref 67)), (kE P "__weakref__" 281 (.ref 68)), (kE P "__doc__" 282 .none)].toArray 4) [].toArray)) ::
  (nat_lit 66, (Obj.mk (.type "type") none (Data.cls (ClassData.mk "Block" [(.type "object")] [(.ref 66), (.type "object")] 65 "Block" true [] [] false none false)) [none, none, (some (.str "Block" 254)), (some (.str "Block" 262)), (some (.builtin "object.__new__")), (some (.bool true))].toArray)) ::
  (nat_lit 67, (Obj.mk (.type "getset_descriptor") none (Data.fields [(.str "__dict__" 278), (.ref 66), (.builtin "function.__dict__"), (.builtin "function.__dict__#set")].toArray) [].toArray)) ::
  (nat_lit 68, (Obj.mk (.type "getset_descriptor") none (Data.fields [(.str "__weakref__" 280), (.ref 66), (.builtin "ExceptionGroup.__weakref__"), .none].toArray) [].toArray)) ::
  (nat_lit 83, (kCd "__init__" 297 "Body.__init__" 298 299 [i0 38, i0 1, i0 0, i0 0, i0 3, .ref 78, .bool true, i0 181, .ref 79, .none, .ref 80, .ref 81, .ref 82, i0 301, i0 38, (.str "/claim/cut.py" 302)])) ::
  (nat_lit 84, (kFn "__init__" "Body.__init__" s_Body_new (.str "blockflow.body" 187) 83)) ::
  (nat_lit 90, (kCd "init" 304 "Body.init" 305 306 [i0 41, i0 1, i0 0, i0 0, i0 3, .ref 85, .bool true, i0 181, .ref 86, .none, .ref 87, .ref 88, .ref 89, i0 308, i0 41, (.str "/claim/cut.py" 309)])) ::
  (nat_lit 91, (kFn "init" "Body.init" s_Body_init (.str "blockflow.body" 187) 90)) ::
  (nat_lit 97, (kCd "block" 311 "Body.block" 312 313 [i0 45, i0 1, i0 0, i0 0, i0 3, .ref 92, .bool true, i0 181, .ref 93, .none, .ref 94, .ref 95, .ref 96, i0 316, i0 45, (.str "/claim/cut.py" 317)])) ::
  (nat_lit 98, (kFn "block" "Body.block" s_Body_block (.str "blockflow.body" 187) 97)) ::
  (nat_lit 104, (kCd "has_block" 319 "Body.has_block" 320 321 [i0 52, i0 2, i0 0, i0 0, i0 3, .ref 99, .bool true, i0 181, .ref 100, .none, .ref 101, .ref 102, .ref 103, i0 324, i0 52, (.str "/claim/cut.py" 325)])) ::
  (nat_lit 105, (kFn "has_block" "Body.has_block" s_Body_has_block (.str "blockflow.body" 187) 104)) ::
  (nat_lit 111, (kCd "is_unended" 327 "Body.is_unended" 328 329 [i0 55, i0 2, i0 0, i0 0, i0 3, .ref 106, .bool true, i0 181, .ref 107, .none, .ref 108, .ref 109, .ref 110, i0 332, i0 55, (.str "/claim/cut.py" 333)])) ::
  (nat_lit 112, (kFn "is_unended" "Body.is_unended" s_Body_is_unended (.str "blockflow.body" 187) 111)) ::
  (nat_lit 118, (kCd "op" 335 "Body.op" 336 337 [i0 58, i0 6, i0 0, i0 0, i0 3, .ref 113, .bool true, i0 181, .ref 114, .none, .ref 115, .ref 116, .ref 117, i0 345, i0 58, (.str "/claim/cut.py" 346)])) ::
  (nat_lit 119, (kFn "op" "Body.op" s_Body_op (.str "blockflow.body" 187) 118)) ::
  (nat_lit 125, (kCd "jump" 348 "Body.jump" 349 350 [i0 67, i0 3, i0 0, i0 0, i0 3, .ref 120, .bool true, i0 181, .ref 121, .none, .ref 122, .ref 123, .ref 124, i0 355, i0 67, (.str "/claim/cut.py" 356)])) ::
  (nat_lit 126, (kFn "jump" "Body.jump" s_Body_jump (.str "blockflow.body" 187) 125)) ::
  (nat_lit 132, (kCd "branch" 358 "Body.branch" 359 360 [i0 75, i0 5, i0 0, i0 0, i0 3, .ref 127, .bool true, i0 181, .ref 128, .none, .ref 129, .ref 130, .ref 131, i0 367, i0 75, (.str "/claim/cut.py" 368)])) ::
  (nat_lit 133, (kFn "branch" "Body.branch" s_Body_branch (.str "blockflow.body" 187) 132)) ::
  (nat_lit 139, (kCd "ret" 370 "Body.ret" 371 372 [i0 86, i0 3, i0 0, i0 0, i0 3, .ref 134, .bool true, i0 181, .ref 135, .none, .ref 136, .ref 137, .ref 138, i0 377, i0 86, (.str "/claim/cut.py" 378)])) ::
  (nat_lit 140, (kFn "ret" "Body.ret" s_Body_ret (.str "blockflow.body" 187) 139)) ::
  (nat_lit 142, (Obj.mk (.type "dict") none (Data.dict [(kE P "__module__" 292 (.str "blockflow.body" 187)), (kE P "__firstlineno__" 296 (.int 36 295)), (kE P "__init__" 303 (.ref 84)), (kE P "init" 310 (.ref 91)), (kE P "block" 318 (.ref 98)), (kE P "has_block" 326 (.ref 105)), (kE P "is_unended" 334 (.ref 112)), (kE P "op" 347 (.ref 119)), (kE P "jump" 357 (.ref 126)), (kE P "branch" 369 (.ref 133)), (kE P "ret" 379 (.ref 140)), (kE P "__static_attributes__" 381 (.ref 141)), (kE P "__dict__" 383 (.ref 144)), (kE P "__weakref__" 385 (.ref 145)), (kE P "__doc__" 386 .none)].toArray 4) [].toArray)) ::
  (nat_lit 143, (Obj.mk (.type "type") none (Data.cls (ClassData.mk "Body" [(.type "object")] [(.ref 143), (.type "object")] 142 "Body" true [] [] false none false)) [none, none, (some (.str "Body" 285)), (some (.str "Body" 293)), (some (.builtin "object.__new__")), (some (.bool true))].toArray)) ::
  (nat_lit 144, (Obj.mk (.type "getset_descriptor") none (Data.fields [(.str "__dict__" 382), (.ref 143), (.builtin "function.__dict__"), (.builtin "function.__dict__#set")].toArray) [].toArray)) ::
  (nat_lit 145, (Obj.mk (.type "getset_descriptor") none (Data.fields [(.str "__weakref__" 384), (.ref 143), (.builtin "ExceptionGroup.__weakref__"), .none].toArray) [].toArray)) ::
  (nat_lit 153, (kCd "holds" 394 "holds" 395 396 [i0 95, i0 2, i0 0, i0 0, i0 3, .ref 148, .bool true, i0 181, .ref 149, .none, .ref 150, .ref 151, .ref 152, i0 399, i0 95, (.str "/claim/cut.py" 400)])) ::
  (nat_lit 154, (kFn "holds" "holds" s_holds (.str "blockflow.ways" 389) 153)) ::
  (nat_lit 158, (kCd "behind" 402 "behind" 403 404 [i0 97, i0 2, i0 0, i0 0, i0 3, .ref 155, .bool true, i0 181, .ref 156, .none, .none, .none, .ref 157, i0 405, i0 97, (.str "/claim/cut.py" 406)])) ::
  (nat_lit 159, (kFn "behind" "behind" s_behind (.str "blockflow.ways" 389) 158)) ::
  (nat_lit 163, (kCd "behind_each" 408 "behind_each" 409 410 [i0 99, i0 1, i0 0, i0 0, i0 3, .ref 160, .bool true, i0 181, .ref 161, .none, .none, .none, .ref 162, i0 411, i0 99, (.str "/claim/cut.py" 412)])) ::
  (nat_lit 164, (kFn "behind_each" "behind_each" s_behind_each (.str "blockflow.ways" 389) 163)) ::
  (nat_lit 170, (kCd "reached_without" 414 "reached_without" 415 416 [i0 101, i0 2, i0 0, i0 0, i0 3, .ref 165, .bool true, i0 181, .ref 166, .none, .ref 167, .ref 168, .ref 169, i0 422, i0 101, (.str "/claim/cut.py" 423)])) ::
  (nat_lit 171, (kFn "reached_without" "reached_without" s_reached_without (.str "blockflow.ways" 389) 170)) ::
  (nat_lit 177, (kCd "under" 425 "under" 426 427 [i0 110, i0 2, i0 0, i0 0, i0 3, .ref 172, .bool true, i0 181, .ref 173, .none, .ref 174, .ref 175, .ref 176, i0 430, i0 110, (.str "/claim/cut.py" 431)])) ::
  (nat_lit 178, (kFn "under" "under" s_under (.str "blockflow.ways" 389) 177)) ::
  (nat_lit 182, (kCd "under_each" 433 "under_each" 434 435 [i0 112, i0 1, i0 0, i0 0, i0 3, .ref 179, .bool true, i0 181, .ref 180, .none, .none, .none, .ref 181, i0 436, i0 112, (.str "/claim/cut.py" 437)])) ::
  (nat_lit 183, (kFn "under_each" "under_each" s_under_each (.str "blockflow.ways" 389) 182)) ::
  (nat_lit 189, (kCd "over" 439 "over" 440 441 [i0 115, i0 3, i0 0, i0 0, i0 3, .ref 184, .bool true, i0 181, .ref 185, .none, .ref 186, .ref 187, .ref 188, i0 445, i0 115, (.str "/claim/cut.py" 446)])) ::
  (nat_lit 190, (kFn "over" "over" s_over (.str "blockflow.ways" 389) 189)) ::
  (nat_lit 194, (kCd "idom" 448 "idom" 449 450 [i0 119, i0 2, i0 0, i0 0, i0 3, .ref 191, .bool true, i0 181, .ref 192, .none, .none, .none, .ref 193, i0 451, i0 119, (.str "/claim/cut.py" 452)])) ::
  (nat_lit 195, (kFn "idom" "idom" s_idom (.str "blockflow.ways" 389) 194)) ::
  (nat_lit 201, (kCd "used_by_step" 456 "used_by_step" 457 458 [i0 129, i0 3, i0 0, i0 0, i0 3, .ref 196, .bool true, i0 181, .ref 197, .none, .ref 198, .ref 199, .ref 200, i0 463, i0 129, (.str "/claim/cut.py" 464)])) ::
  (nat_lit 202, (kFn "used_by_step" "used_by_step" s_used_by_step (.str "blockflow.living" 454) 201)) ::
  (nat_lit 208, (kCd "used_by_end" 466 "used_by_end" 467 468 [i0 136, i0 1, i0 0, i0 0, i0 3, .ref 203, .bool true, i0 181, .ref 204, .none, .ref 205, .ref 206, .ref 207, i0 470, i0 136, (.str "/claim/cut.py" 471)])) ::
  (nat_lit 209, (kFn "used_by_end" "used_by_end" s_used_by_end (.str "blockflow.living" 454) 208)) ::
  (nat_lit 215, (kCd "given_by" 473 "given_by" 474 475 [i0 140, i0 1, i0 0, i0 0, i0 3, .ref 210, .bool true, i0 181, .ref 211, .none, .ref 212, .ref 213, .ref 214, i0 482, i0 140, (.str "/claim/cut.py" 483)])) ::
  (nat_lit 216, (kFn "given_by" "given_by" s_given_by (.str "blockflow.living" 454) 215)) ::
  (nat_lit 222, (kCd "ahead_of_step" 485 "ahead_of_step" 486 487 [i0 145, i0 5, i0 0, i0 0, i0 3, .ref 217, .bool true, i0 181, .ref 218, .none, .ref 219, .ref 220, .ref 221, i0 493, i0 145, (.str "/claim/cut.py" 494)])) ::
  (nat_lit 223, (kFn "ahead_of_step" "ahead_of_step" s_ahead_of_step (.str "blockflow.living" 454) 222)) ::
  (nat_lit 229, (kCd "used_first" 496 "used_first" 497 498 [i0 147, i0 1, i0 0, i0 0, i0 3, .ref 224, .bool true, i0 181, .ref 225, .none, .ref 226, .ref 227, .ref 228, i0 505, i0 147, (.str "/claim/cut.py" 506)])) ::
  (nat_lit 230, (kFn "used_first" "used_first" s_used_first (.str "blockflow.living" 454) 229)) ::
  (nat_lit 236, (kCd "in_any" 508 "in_any" 509 510 [i0 152, i0 2, i0 0, i0 0, i0 3, .ref 231, .bool true, i0 181, .ref 232, .none, .ref 233, .ref 234, .ref 235, i0 515, i0 152, (.str "/claim/cut.py" 516)])) ::
  (nat_lit 237, (kFn "in_any" "in_any" s_in_any (.str "blockflow.living" 454) 236)) ::
  (nat_lit 241, (kCd "in_each" 518 "in_each" 519 520 [i0 157, i0 1, i0 0, i0 0, i0 3, .ref 238, .bool true, i0 181, .ref 239, .none, .none, .none, .ref 240, i0 521, i0 157, (.str "/claim/cut.py" 522)])) ::
  (nat_lit 242, (kFn "in_each" "in_each" s_in_each (.str "blockflow.living" 454) 241)) ::
  (nat_lit 248, (kCd "in_of" 524 "in_of" 525 526 [i0 170, i0 2, i0 0, i0 0, i0 3, .ref 243, .bool true, i0 181, .ref 244, .none, .ref 245, .ref 246, .ref 247, i0 529, i0 170, (.str "/claim/cut.py" 530)])) ::
  (nat_lit 249, (kFn "in_of" "in_of" s_in_of (.str "blockflow.living" 454) 248)) ::
  (nat_lit 255, (kCd "out" 532 "out" 533 534 [i0 174, i0 2, i0 0, i0 0, i0 3, .ref 250, .bool true, i0 181, .ref 251, .none, .ref 252, .ref 253, .ref 254, i0 537, i0 174, (.str "/claim/cut.py" 538)])) ::
  (nat_lit 256, (kFn "out" "out" s_out (.str "blockflow.living" 454) 255)) ::
  (nat_lit 262, (kCd "mark_steps" 545 "mark_steps" 546 547 [i0 180, i0 3, i0 0, i0 0, i0 3, .ref 257, .bool true, i0 181, .ref 258, .none, .ref 259, .ref 260, .ref 261, i0 556, i0 180, (.str "/claim/cut.py" 557)])) ::
  (nat_lit 263, (kFn "mark_steps" "mark_steps" s_mark_steps (.str "blockflow.clashing" 540) 262)) ::
  (nat_lit 269, (kCd "both_ways" 559 "both_ways" 560 561 [i0 188, i0 1, i0 0, i0 0, i0 3, .ref 264, .bool true, i0 181, .ref 265, .none, .ref 266, .ref 267, .ref 268, i0 567, i0 188, (.str "/claim/cut.py" 568)])) ::
  (nat_lit 270, (kFn "both_ways" "both_ways" s_both_ways (.str "blockflow.clashing" 540) 269)) ::
  (nat_lit 274, (kCd "clash_each" 570 "clash_each" 571 572 [i0 197, i0 1, i0 0, i0 0, i0 3, .ref 271, .bool true, i0 181, .ref 272, .none, .none, .none, .ref 273, i0 573, i0 197, (.str "/claim/cut.py" 574)])) ::
  (nat_lit 275, (kFn "clash_each" "clash_each" s_clash_each (.str "blockflow.clashing" 540) 274)) ::
  (nat_lit 281, (kCd "clash" 576 "clash" 577 578 [i0 207, i0 2, i0 0, i0 0, i0 3, .ref 276, .bool true, i0 181, .ref 277, .none, .ref 278, .ref 279, .ref 280, i0 581, i0 207, (.str "/claim/cut.py" 582)])) ::
  (nat_lit 282, (kFn "clash" "clash" s_clash (.str "blockflow.clashing" 540) 281)) ::
  (nat_lit 288, (kCd "least_free" 584 "least_free" 585 586 [i0 211, i0 1, i0 0, i0 0, i0 3, .ref 283, .bool true, i0 181, .ref 284, .none, .ref 285, .ref 286, .ref 287, i0 589, i0 211, (.str "/claim/cut.py" 590)])) ::
  (nat_lit 289, (kFn "least_free" "least_free" s_least_free (.str "blockflow.clashing" 540) 288)) ::
  (nat_lit 293, (kCd "registers" 592 "registers" 593 594 [i0 216, i0 2, i0 0, i0 0, i0 3, .ref 290, .bool true, i0 181, .ref 291, .none, .none, .none, .ref 292, i0 595, i0 216, (.str "/claim/cut.py" 596)])) ::
  (nat_lit 294, (kFn "registers" "registers" s_registers (.str "blockflow.clashing" 540) 293)) ::
  (nat_lit 300, (kCd "front_of" 600 "front_of" 601 602 [i0 226, i0 3, i0 0, i0 0, i0 3, .ref 295, .bool true, i0 181, .ref 296, .none, .ref 297, .ref 298, .ref 299, i0 610, i0 226, (.str "/claim/cut.py" 611)])) ::
  (nat_lit 301, (kFn "front_of" "front_of" s_front_of (.str "blockflow.loops" 598) 300)) ::
  (nat_lit 307, (kCd "front" 613 "front" 614 615 [i0 233, i0 2, i0 0, i0 0, i0 3, .ref 302, .bool true, i0 181, .ref 303, .none, .ref 304, .ref 305, .ref 306, i0 619, i0 233, (.str "/claim/cut.py" 620)])) ::
  (nat_lit 308, (kFn "front" "front" s_front (.str "blockflow.loops" 598) 307)) ::
  (nat_lit 312, (kCd "coming_to" 622 "coming_to" 623 624 [i0 238, i0 3, i0 0, i0 0, i0 3, .ref 309, .bool true, i0 181, .ref 310, .none, .none, .none, .ref 311, i0 625, i0 238, (.str "/claim/cut.py" 626)])) ::
  (nat_lit 313, (kFn "coming_to" "coming_to" s_coming_to (.str "blockflow.loops" 598) 312)) ::
  (nat_lit 317, (kCd "loop" 628 "loop" 629 630 [i0 247, i0 2, i0 0, i0 0, i0 3, .ref 314, .bool true, i0 181, .ref 315, .none, .none, .none, .ref 316, i0 631, i0 247, (.str "/claim/cut.py" 632)])) ::
  (nat_lit 318, (kFn "loop" "loop" s_loop (.str "blockflow.loops" 598) 317)) ::
  (nat_lit 322, (kCd "front_each" 636 "front_each" 637 638 [i0 257, i0 1, i0 0, i0 0, i0 3, .ref 319, .bool true, i0 181, .ref 320, .none, .none, .none, .ref 321, i0 639, i0 257, (.str "/claim/cut.py" 640)])) ::
  (nat_lit 323, (kFn "front_each" "front_each" s_front_each (.str "blockflow.meeting" 634) 322)) ::
  (nat_lit 327, (kCd "made_each" 642 "made_each" 643 644 [i0 263, i0 1, i0 0, i0 0, i0 3, .ref 324, .bool true, i0 181, .ref 325, .none, .none, .none, .ref 326, i0 645, i0 263, (.str "/claim/cut.py" 646)])) ::
  (nat_lit 328, (kFn "made_each" "made_each" s_made_each (.str "blockflow.meeting" 634) 327)) ::
  (nat_lit 332, (kCd "meet_each" 648 "meet_each" 649 650 [i0 267, i0 1, i0 0, i0 0, i0 3, .ref 329, .bool true, i0 181, .ref 330, .none, .none, .none, .ref 331, i0 651, i0 267, (.str "/claim/cut.py" 652)])) ::
  (nat_lit 333, (kFn "meet_each" "meet_each" s_meet_each (.str "blockflow.meeting" 634) 332)) ::
  (nat_lit 339, (kCd "meet" 654 "meet" 655 656 [i0 282, i0 2, i0 0, i0 0, i0 3, .ref 334, .bool true, i0 181, .ref 335, .none, .ref 336, .ref 337, .ref 338, i0 659, i0 282, (.str "/claim/cut.py" 660)])) ::
  (nat_lit 340, (kFn "meet" "meet" s_meet (.str "blockflow.meeting" 634) 339)) ::
  (nat_lit 346, (kCd "as_long" 674 "as_long" 675 676 [i0 291, i0 1, i0 0, i0 0, i0 3, .ref 341, .bool true, i0 181, .ref 342, .none, .ref 343, .ref 344, .ref 345, i0 678, i0 291, (.str "/claim/cut.py" 679)])) ::
  (nat_lit 347, (kFn "as_long" "as_long" s_as_long (.str "blockflow.running" 662) 346)) ::
  (nat_lit 353, (kCd "step_value" 681 "step_value" 682 683 [i0 293, i0 4, i0 0, i0 0, i0 3, .ref 348, .bool true, i0 181, .ref 349, .none, .ref 350, .ref 351, .ref 352, i0 688, i0 293, (.str "/claim/cut.py" 689)])) ::
  (nat_lit 354, (kFn "step_value" "step_value" s_step_value (.str "blockflow.running" 662) 353)) ::
  (nat_lit 360, (kCd "take_steps" 691 "take_steps" 692 693 [i0 305, i0 2, i0 0, i0 0, i0 3, .ref 355, .bool true, i0 181, .ref 356, .none, .ref 357, .ref 358, .ref 359, i0 700, i0 305, (.str "/claim/cut.py" 701)])) ::
  (nat_lit 361, (kFn "take_steps" "take_steps" s_take_steps (.str "blockflow.running" 662) 360)) ::
  (nat_lit 367, (kCd "goal_of" 703 "goal_of" 704 705 [i0 308, i0 2, i0 0, i0 0, i0 3, .ref 362, .bool true, i0 181, .ref 363, .none, .ref 364, .ref 365, .ref 366, i0 708, i0 308, (.str "/claim/cut.py" 709)])) ::
  (nat_lit 368, (kFn "goal_of" "goal_of" s_goal_of (.str "blockflow.running" 662) 367)) ::
  (nat_lit 374, (kCd "run" 711 "run" 712 713 [i0 312, i0 3, i0 0, i0 0, i0 3, .ref 369, .bool true, i0 181, .ref 370, .none, .ref 371, .ref 372, .ref 373, i0 721, i0 312, (.str "/claim/cut.py" 722)])) ::
  (nat_lit 375, (kFn "run" "run" s_run (.str "blockflow.running" 662) 374)) ::
  (nat_lit 376, (Obj.mk (.type "tuple") none (Data.seq [(.int 0 758), (.int 0 759), (.int 5 760), (.int 2 761), (.int 4 762), (.int 2 763), (.int 2 764), (.int 1 765), (.int 1 766), (.int 1 767), (.int 1 768), (.int 1 769), (.int 1 770), (.int 1 771), (.int 1 772), (.int 1 773)].toArray 0) [].toArray)) ::
  (nat_lit 382, (kCd "changed" 775 "changed" 776 777 [i0 349, i0 3, i0 0, i0 0, i0 3, .ref 377, .bool true, i0 181, .ref 378, .none, .ref 379, .ref 380, .ref 381, i0 781, i0 349, (.str "/claim/cut.py" 782)])) ::
  (nat_lit 383, (kFn "changed" "changed" s_changed (.str "blockflow.desk" 724) 382)) ::
  (nat_lit 389, (kCd "found" 784 "found" 785 786 [i0 361, i0 3, i0 0, i0 0, i0 3, .ref 384, .bool true, i0 181, .ref 385, .none, .ref 386, .ref 387, .ref 388, i0 790, i0 361, (.str "/claim/cut.py" 791)])) ::
  (nat_lit 390, (kFn "found" "found" s_found (.str "blockflow.desk" 724) 389)) ::
  (nat_lit 396, (kCd "answer" 793 "answer" 794 795 [i0 375, i0 4, i0 0, i0 0, i0 3, .ref 391, .bool true, i0 181, .ref 392, .none, .ref 393, .ref 394, .ref 395, i0 800, i0 375, (.str "/claim/cut.py" 801)])) ::
  (nat_lit 397, (kFn "answer" "answer" s_answer (.str "blockflow.desk" 724) 396)) ::
  (nat_lit 403, (kCd "answers" 803 "answers" 804 805 [i0 385, i0 1, i0 0, i0 0, i0 3, .ref 398, .bool true, i0 181, .ref 399, .none, .ref 400, .ref 401, .ref 402, i0 815, i0 385, (.str "/claim/cut.py" 816)])) ::
  (nat_lit 404, (kFn "answers" "answers" s_answers (.str "blockflow.desk" 724) 403)) ::
  []
noncomputable def asK : List Addr := [nat_lit 2, nat_lit 3, nat_lit 20, nat_lit 21, nat_lit 27, nat_lit 28, nat_lit 34, nat_lit 35, nat_lit 41, nat_lit 42, nat_lit 48, nat_lit 49, nat_lit 62, nat_lit 63, nat_lit 65, nat_lit 66, nat_lit 67, nat_lit 68, nat_lit 83, nat_lit 84, nat_lit 90, nat_lit 91, nat_lit 97, nat_lit 98, nat_lit 104, nat_lit 105, nat_lit 111, nat_lit 112, nat_lit 118, nat_lit 119, nat_lit 125, nat_lit 126, nat_lit 132, nat_lit 133, nat_lit 139, nat_lit 140, nat_lit 142, nat_lit 143, nat_lit 144, nat_lit 145, nat_lit 153, nat_lit 154, nat_lit 158, nat_lit 159, nat_lit 163, nat_lit 164, nat_lit 170, nat_lit 171, nat_lit 177, nat_lit 178, nat_lit 182, nat_lit 183, nat_lit 189, nat_lit 190, nat_lit 194, nat_lit 195, nat_lit 201, nat_lit 202, nat_lit 208, nat_lit 209, nat_lit 215, nat_lit 216, nat_lit 222, nat_lit 223, nat_lit 229, nat_lit 230, nat_lit 236, nat_lit 237, nat_lit 241, nat_lit 242, nat_lit 248, nat_lit 249, nat_lit 255, nat_lit 256, nat_lit 262, nat_lit 263, nat_lit 269, nat_lit 270, nat_lit 274, nat_lit 275, nat_lit 281, nat_lit 282, nat_lit 288, nat_lit 289, nat_lit 293, nat_lit 294, nat_lit 300, nat_lit 301, nat_lit 307, nat_lit 308, nat_lit 312, nat_lit 313, nat_lit 317, nat_lit 318, nat_lit 322, nat_lit 323, nat_lit 327, nat_lit 328, nat_lit 332, nat_lit 333, nat_lit 339, nat_lit 340, nat_lit 346, nat_lit 347, nat_lit 353, nat_lit 354, nat_lit 360, nat_lit 361, nat_lit 367, nat_lit 368, nat_lit 374, nat_lit 375, nat_lit 376, nat_lit 382, nat_lit 383, nat_lit 389, nat_lit 390, nat_lit 396, nat_lit 397, nat_lit 403, nat_lit 404]
noncomputable def kH : Hook := kHook kK asK (fun _ => by kernel_rfl)
abbrev ends (w : World) : Option Shared := openEnds treeTable pw w 5136
noncomputable abbrev Xv (s : Shared) : Bool := xlAt vw [] s && recOk [] s
noncomputable def l1 (w : World) := (openEnds treeTable pw w 5136).map fun s => seen ((recsOf vw).map (·.name)) (ownsOf vw) [] { s with gens := #[] }
noncomputable def r1 := some (expectedOf vw)
noncomputable def l2 (w : World) := (openEnds treeTable pw w 5136).map fun s => (s.heap.bltView, s.heap.accountedOkI (importedModules pw.main.body))
noncomputable def r2 := some (bltViewBooted, true)
noncomputable def l3 (w : World) := (openEnds treeTable pw w 5136).map fun s => s.heap.keysOk (looseW vw []) ((recsOf vw).map (·.name)) ((litsOf vw).map (·.1)) ((clssOf vw (looseW vw [])).map (·.name))
noncomputable def r3 := some true
noncomputable def l4 (w : World) := (openEnds treeTable pw w 5136).map fun s => (s.heap.isNs mainGlobals, s.heap.isNs builtinsNs, tablesOk vw s.heap)
noncomputable def r4 := some (true, true, true)
noncomputable def l5 (w : World) := (openEnds treeTable pw w 5136).map fun s => (Xv s, s.gens.size == 0, tabsOk vw s)
noncomputable def r5 := some (true, true, true)
noncomputable def l6 (w : World) := (openEnds treeTable pw w 5136).map fun s => (pinSeenD vw (drecsOf vw) s, plainSeenE vw (looseW vw []) s, plainSeenD vw [] s, wideSeen vw s, clsSeenW vw [] s)
noncomputable def r6 := some (pinGoodD (drecsOf vw), plainGoodE vw (looseW vw []), plainGoodD vw [], wideGood vw, clsGoodW vw [])
noncomputable def l7 (w : World) := (openEnds treeTable pw w 5136).map fun s => asK.map s.heap.get?
noncomputable def r7 (w : World) := some ((kK w.params).map fun p => some p.2)
lay_quick BF.l1 BF.r1 BF.l2 BF.r2 BF.l3 BF.l4 BF.l5 BF.l6 BF.r6 BF.l7 BF.r7
theorem q1 : ∀ w : World, PySem.W.Fast.tw6959680230077504157 w = PySem.W.Fast.tw13771328409315882956 := fun w => by kernel_rfl
theorem c1 : ∀ w, (openEnds treeTable pw w 5136).map (fun s => seen ((recsOf vw).map (·.name)) (ownsOf vw) [] { s with gens := #[] }) = some (expectedOf vw) := fun w => (show l1 w = r1 from (congrFun PySem.W.Fast.te6959680230077504157 w).trans ((q1 w).trans PySem.W.Fast.te13771328409315882956.symm))
theorem q2 : ∀ w : World, PySem.W.Fast.tw9961829055601325997 w = PySem.W.Fast.tw7300552079985657986 := fun w => by kernel_rfl
theorem c2 : ∀ w, (openEnds treeTable pw w 5136).map (fun s => (s.heap.bltView, s.heap.accountedOkI (importedModules pw.main.body))) = some (bltViewBooted, true) := fun w => (show l2 w = r2 from (congrFun PySem.W.Fast.te9961829055601325997 w).trans ((q2 w).trans PySem.W.Fast.te7300552079985657986.symm))
theorem q3 : ∀ w : World, PySem.W.Fast.tw2836049390742560126 w = r3 := fun w => by kernel_rfl
theorem c3 : ∀ w, (openEnds treeTable pw w 5136).map (fun s => s.heap.keysOk (looseW vw []) ((recsOf vw).map (·.name)) ((litsOf vw).map (·.1)) ((clssOf vw (looseW vw [])).map (·.name))) = some true := fun w => (show l3 w = r3 from (congrFun PySem.W.Fast.te2836049390742560126 w).trans (q3 w))
theorem q4 : ∀ w : World, PySem.W.Fast.tw5559544077007404152 w = r4 := fun w => by kernel_rfl
theorem c4 : ∀ w, (openEnds treeTable pw w 5136).map (fun s => (s.heap.isNs mainGlobals, s.heap.isNs builtinsNs, tablesOk vw s.heap)) = some (true, true, true) := fun w => (show l4 w = r4 from (congrFun PySem.W.Fast.te5559544077007404152 w).trans (q4 w))
theorem q5 : ∀ w : World, PySem.W.Fast.tw14406210419675621795 w = r5 := fun w => by kernel_rfl
theorem c5 : ∀ w, (openEnds treeTable pw w 5136).map (fun s => ((xlAt vw [] s && recOk [] s), s.gens.size == 0, tabsOk vw s)) = some (true, true, true) := fun w => (show l5 w = r5 from (congrFun PySem.W.Fast.te14406210419675621795 w).trans (q5 w))
theorem q6 : ∀ w : World, PySem.W.Fast.tw17067275339531793850 w = PySem.W.Fast.tw7262677957755265975 := fun w => by kernel_rfl
theorem c6 : ∀ w, (openEnds treeTable pw w 5136).map (fun s => (pinSeenD vw (drecsOf vw) s, plainSeenE vw (looseW vw []) s, plainSeenD vw [] s, wideSeen vw s, clsSeenW vw [] s)) = some (pinGoodD (drecsOf vw), plainGoodE vw (looseW vw []), plainGoodD vw [], wideGood vw, clsGoodW vw []) := fun w => (show l6 w = r6 from (congrFun PySem.W.Fast.te17067275339531793850 w).trans ((q6 w).trans PySem.W.Fast.te7262677957755265975.symm))
theorem q7 : ∀ w : World, PySem.W.Fast.tw9871152131297513108 w = PySem.W.Fast.tw9828945619980361309 w := fun w => by kernel_rfl
theorem c7 : ∀ w, (openEnds treeTable pw w 5136).map (fun s => asK.map s.heap.get?) = some ((kK w.params).map fun p => some p.2) := fun w => (show l7 w = r7 w from (congrFun PySem.W.Fast.te9871152131297513108 w).trans ((q7 w).trans (congrFun PySem.W.Fast.te9828945619980361309 w).symm))
theorem map_some {α β : Type} {o : Option α} {f : α → β} {b : β} {s : α} (h : o.map f = some b) (hs : o = some s) : f s = b := by
  rw [hs] at h
  exact Option.some.inj h
theorem hl : LeftO pw vw [] (fun s => xlAt vw [] s && recOk [] s) (Hook.obs kH) (Hook.val kH) 5136 := fun w => by
  obtain ⟨s, hs, e1⟩ := Option.map_eq_some_iff.mp (c1 w)
  have e2 := map_some (c2 w) hs
  have e3 := map_some (c3 w) hs
  have e4 := map_some (c4 w) hs
  have e5 := map_some (c5 w) hs
  have e6 := map_some (c6 w) hs
  have e7 := map_some (c7 w) hs
  have e2a := congrArg Prod.fst e2
  have e2b := congrArg Prod.snd e2
  have e4a := congrArg Prod.fst e4
  have e4b := congrArg (fun x => x.2.1) e4
  have e4c := congrArg (fun x => x.2.2) e4
  have e5a := congrArg Prod.fst e5
  have e5b := congrArg (fun x => x.2.1) e5
  have e5c := congrArg (fun x => x.2.2) e5
  dsimp only at e2a e2b e4a e4b e4c e5a e5b e5c
  show (openEnds treeTable pw w 5136).map _ = _
  rw [hs]
  refine congrArg some (Prod.ext (Prod.ext e1 (Prod.ext e2a (Prod.ext ?_ (Prod.ext e5c e6)))) e7)
  show (s.heap.keysOk (looseW vw []) ((recsOf vw).map (·.name)) ((litsOf vw).map (·.1)) ((clssOf vw (looseW vw [])).map (·.name)) && s.heap.accountedOkI (importedModules pw.main.body) && s.heap.isNs mainGlobals && s.heap.isNs builtinsNs && tablesOk vw s.heap && (xlAt vw [] s && recOk [] s) && (if true then s.gens.size == 0 else !leftWithCleanup s.gens)) = true
  rw [e3, e2b, e4a, e4b, e4c, e5a]
  exact e5b
end BF
end


section
set_option Elab.async false
set_option linter.all false
set_option maxRecDepth 100000
set_option maxHeartbeats 4000000
namespace BF
open PySem PySem.Spec PyProof.Rows L2
variable {P : Program} {w : World} {K : PySem.W.Frag} {mg : Str → Option Value} {base : Heap} {A : Ad}
theorem Qv {Q : VK} {H : Hp} {a b : V} (k : Q a H) (e : a = b) : Q b H := e ▸ k
theorem Qb {Q : VK} {H : Hp} {a b : Bool} (k : Q (.bl a) H) (e : a = b) : Q (.bl b) H := e ▸ k
theorem Qi {Q : VK} {H : Hp} {a b : Int} (k : Q (.int a) H) (e : a = b) : Q (.int b) H := e ▸ k
def sp1 (g : Int → V) : Sp := fun vs H Q _ => ∃ x : Int, vs = [.int x] ∧ Q (g x) H
def sp2 (g : Int → Int → V) : Sp := fun vs H Q _ => ∃ a b : Int, vs = [.int a, .int b] ∧ Q (g a b) H
def sp4 (g : Int → Int → Int → Int → V) : Sp := fun vs H Q _ => ∃ a b c d : Int, vs = [.int a, .int b, .int c, .int d] ∧ Q (g a b c d) H
def isV (v : Int) : Bool := decide (0 ≤ v ∧ v < 32)
def isT (v : Int) : Bool := decide (0 ≤ v ∧ v < 64)
def rdX (op : Int) : Bool := decide (0 ≤ op ∧ op ≤ 4)
def rdY (op : Int) : Bool := decide (0 ≤ op ∧ op ≤ 3)
def isS (op d x y : Int) : Bool := decide (0 ≤ op ∧ op ≤ 5) && isV d && (isV x || !rdX op) && (isV y || !rdY op)
theorem d_is_variable (T : Txt K mg A) : Def P w K mg base 1 "is_variable" ["v"] (sp1 fun v => .bl (isV v)) := by
  refine T.r_is_variable.def sc_is_variable (fun vs H Q E h => ?_) (fun f cdv A outer s H vs Q E hr h => ?_)
  · obtain ⟨x, rfl, _⟩ := h
    rfl
  · obtain ⟨x, rfl, k⟩ := h
    refine ⟨_, (pss_one (ps_ret (pe_chain op_le op_lt pe_int (pv 0) (gl T.c_VARIABLES)))), ?_⟩
    refine ⟨_, rfl, _, _, rfl, rfl, _, rfl, ?_⟩
    refine ite2 (fun h1 => ⟨_, _, rfl, rfl, ?_⟩) (fun h1 => ?_)
    · exact Qb k (by simp only [isV, decide_eq_decide]; simp at h1; omega)
    · exact Qb k (by simp at h1; simp [isV]; omega)
theorem d_is_goal (T : Txt K mg A) : Def P w K mg base 1 "is_goal" ["to"] (sp1 fun v => .bl (isT v)) := by
  refine T.r_is_goal.def sc_is_goal (fun vs H Q E h => ?_) (fun f cdv A outer s H vs Q E hr h => ?_)
  · obtain ⟨x, rfl, _⟩ := h
    rfl
  · obtain ⟨x, rfl, k⟩ := h
    refine ⟨_, (pss_one (ps_ret (pe_chain op_le op_lt pe_int (pv 0) (gl T.c_MOST_BLOCKS)))), ?_⟩
    refine ⟨_, rfl, _, _, rfl, rfl, _, rfl, ?_⟩
    refine ite2 (fun h1 => ⟨_, _, rfl, rfl, ?_⟩) (fun h1 => ?_)
    · exact Qb k (by simp only [isT, decide_eq_decide]; simp at h1; omega)
    · exact Qb k (by simp at h1; simp [isT]; omega)
theorem d_reads_x (T : Txt K mg A) : Def P w K mg base 1 "reads_x" ["op"] (sp1 fun v => .bl (rdX v)) := by
  refine T.r_reads_x.def sc_reads_x (fun vs H Q E h => ?_) (fun f cdv A outer s H vs Q E hr h => ?_)
  · obtain ⟨x, rfl, _⟩ := h
    rfl
  · obtain ⟨x, rfl, k⟩ := h
    refine ⟨_, (pss_one (ps_ret (pe_chain op_le op_le (gl T.c_ADD) (pv 0) (gl T.c_COPY)))), ?_⟩
    refine ⟨_, rfl, _, _, rfl, rfl, _, rfl, ?_⟩
    refine ite2 (fun h1 => ⟨_, _, rfl, rfl, ?_⟩) (fun h1 => ?_)
    · exact Qb k (by simp only [rdX, decide_eq_decide]; simp at h1; omega)
    · exact Qb k (by simp at h1; simp [rdX]; omega)
theorem d_reads_y (T : Txt K mg A) : Def P w K mg base 1 "reads_y" ["op"] (sp1 fun v => .bl (rdY v)) := by
  refine T.r_reads_y.def sc_reads_y (fun vs H Q E h => ?_) (fun f cdv A outer s H vs Q E hr h => ?_)
  · obtain ⟨x, rfl, _⟩ := h
    rfl
  · obtain ⟨x, rfl, k⟩ := h
    refine ⟨_, (pss_one (ps_ret (pe_chain op_le op_le (gl T.c_ADD) (pv 0) (gl T.c_LESS)))), ?_⟩
    refine ⟨_, rfl, _, _, rfl, rfl, _, rfl, ?_⟩
    refine ite2 (fun h1 => ⟨_, _, rfl, rfl, ?_⟩) (fun h1 => ?_)
    · exact Qb k (by simp only [rdY, decide_eq_decide]; simp at h1; omega)
    · exact Qb k (by simp at h1; simp [rdY]; omega)
theorem d_is_step (T : Txt K mg A) : Def P w K mg base 2 "is_step" ["op", "d", "x", "y"] (sp4 fun op d x y => .bl (isS op d x y)) := by
  refine T.r_is_step.def sc_is_step (fun vs H Q E h => ?_) (fun f cdv A outer s H vs Q E hr h => ?_)
  · obtain ⟨a, b, c, d, rfl, _⟩ := h
    rfl
  · obtain ⟨op, d, x, y, rfl, k⟩ := h
    refine ⟨_, (pss_cons (ps_if (PW.pt (pw_or (pt_not (pt_chain op_le op_le (gl T.c_ADD) (pv 0) (gl T.c_NUMBER))) (pw_or1 (pt_not (pt_val (pe_def (d_is_variable T) hr (pa_cons (pv 1) pa_nil))))))) (pss_one (ps_ret pe_bl)) pss_nil) (pss_cons (ps_if (PW.pt (pw_and (pt_val (pe_def (d_reads_x T) hr (pa_cons (pv 0) pa_nil))) (pw_and1 (pt_not (pt_val (pe_def (d_is_variable T) hr (pa_cons (pv 2) pa_nil))))))) (pss_one (ps_ret pe_bl)) pss_nil) (pss_one (ps_ret (pe_or (pe_def (d_is_variable T) hr (pa_cons (pv 3) pa_nil)) (pe_one (pe_not (pe_def (d_reads_y T) hr (pa_cons (pv 0) pa_nil))))))))), ?_⟩
    simp only [tSeq, tIfS, tOr, tNot, tAnd, tTest, tChain, rI0, rI, tC, tVar, tB, tCall, tMeth, tMake, tFld, sFld, tCons, tNil, tRet, tRetN, tNext, tOrV, tAndV, tNotV, tIf, tOp, tUn, rU, rEq, rNe, scal, tAsg, gName, gSub, tDrop, tLst, tTup, tCB, tBM, tBM0, rIxL, rIxT, rAppend, rPop, rExtend, rSetL, tSl, tPart, tNoPart, rSlL, sp1, sp2, sp4, L2.start, List.map_cons, List.map_nil, List.length_cons, List.length_nil, Nat.zero_add, Nat.sub_self, List.replicate, List.append_nil, List.nil_append, List.cons_append, List.getElem?_cons_zero, List.getElem?_cons_succ, List.set_cons_zero, List.set_cons_succ, Option.some.injEq, exists_eq_left', exists_eq_left, exists_eq, V.int.injEq, V.bl.injEq, V.ref.injEq, HO.ins.injEq, HO.lst.injEq, List.cons.injEq, and_true, true_and, exists_and_left, exists_and_right, reduceCtorEq, Nat.reduceAdd, Nat.reduceSub, Bool.not_true, Bool.not_false, if_true, if_false, ↓reduceIte, Bool.false_eq_true, upd_same]
    repeat' split
    all_goals exact Qb k (by first | (simp_all [isS]; done) | (simp_all [isS]; omega))
end BF
end


section
set_option Elab.async false
set_option linter.all false
set_option maxRecDepth 100000
set_option maxHeartbeats 4000000
namespace BF
open PySem PySem.Spec PyProof.Rows L2
structure RB where
  steps : List (Int × Int × Int × Int)
  fin : Int
  var : Int
  goals : List Int
def bfs (ls lg : Addr) (fin var : Int) : List (Str × V) := [("steps", .ref ls), ("end", .int fin), ("variable", .int var), ("goals", .ref lg)]
def tupV (q : Int × Int × Int × Int) : List V := [.int q.1, .int q.2.1, .int q.2.2.1, .int q.2.2.2]
structure BlockIs (A : Ad) (H : Hp) (a ls lg : Addr) (as : List Addr) (r : RB) : Prop where
  ins : ∃ dx, H a = some (.ins A.Block dx (bfs ls lg r.fin r.var))
  lst : H ls = some (.lst (as.map V.ref))
  tup : H lg = some (.tup (r.goals.map V.int))
  len : as.length = r.steps.length
  at_ : ∀ (i : Nat) (q : Int × Int × Int × Int), r.steps[i]? = some q → ∃ c, as[i]? = some c ∧ H c = some (.tup (tupV q))
def BlockAt (A : Ad) (H : Hp) (b : Addr × Addr) (r : RB) : Prop := ∃ lg as, BlockIs A H b.1 b.2 lg as r
structure BodyIs (A : Ad) (H : Hp) (p lb : Addr) (bs : List (Addr × Addr)) (rs : List RB) : Prop where
  nd : (p :: lb :: (bs.map (·.1) ++ bs.map (·.2))).Nodup
  ins : ∃ dx, H p = some (.ins A.Body dx [("blocks", .ref lb)])
  lst : H lb = some (.lst (bs.map fun b => .ref b.1))
  len : bs.length = rs.length
  at_ : ∀ (i : Nat) (r : RB), rs[i]? = some r → ∃ b, bs[i]? = some b ∧ BlockAt A H b r
def BodyAt (A : Ad) (H : Hp) (p : Addr) (rs : List RB) (F : List Addr) : Prop := ∃ lb bs, F = p :: lb :: (bs.map (·.1) ++ bs.map (·.2)) ∧ BodyIs A H p lb bs rs
def Keeps (F : List Addr) (H H' : Hp) : Prop := ∀ b o, H b = some o → b ∉ F → H' b = some o
def Fresh (H : Hp) (F F' : List Addr) : Prop := ∀ x ∈ F', x ∈ F ∨ H x = none
theorem Fresh.refl {H : Hp} {F : List Addr} : Fresh H F F := fun _ h => .inl h
theorem Keeps.refl {H : Hp} {F : List Addr} : Keeps F H H := fun _ _ h _ => h
theorem Same.keeps {H H' : Hp} {F : List Addr} (h : Same H H') : Keeps F H H' := fun b o e _ => h b o e
section
variable {A : Ad} {H H' : Hp} {p lb : Addr} {bs : List (Addr × Addr)} {rs : List RB} {F : List Addr}
theorem BlockIs.same {a ls lg : Addr} {as : List Addr} {r : RB} (B : BlockIs A H a ls lg as r) (h : Same H H') : BlockIs A H' a ls lg as r :=
  ⟨let ⟨dx, e⟩ := B.ins; ⟨dx, h _ _ e⟩, h _ _ B.lst, h _ _ B.tup, B.len, fun i q e => let ⟨c, e1, e2⟩ := B.at_ i q e; ⟨c, e1, h _ _ e2⟩⟩
theorem BlockAt.same {b : Addr × Addr} {r : RB} (B : BlockAt A H b r) (h : Same H H') : BlockAt A H' b r := let ⟨lg, as, q⟩ := B; ⟨lg, as, q.same h⟩
theorem BodyIs.same (B : BodyIs A H p lb bs rs) (h : Same H H') : BodyIs A H' p lb bs rs :=
  ⟨B.nd, let ⟨dx, e⟩ := B.ins; ⟨dx, h _ _ e⟩, h _ _ B.lst, B.len, fun i r e => let ⟨b, e1, e2⟩ := B.at_ i r e; ⟨b, e1, e2.same h⟩⟩
theorem BodyAt.same (B : BodyAt A H p rs F) (h : Same H H') : BodyAt A H' p rs F := let ⟨lb, bs, e, q⟩ := B; ⟨lb, bs, e, q.same h⟩
theorem BlockAt.keep {b : Addr × Addr} {r : RB} {x y : Addr} {ox oy : HO} (B : BlockAt A H b r) (kp : ∀ c o, H c = some o → c ≠ x → c ≠ y → H' c = some o) (hx : H x = some ox) (hy : H y = some oy) (nx : ∀ l, ox ≠ .tup l) (ny : ∀ l, oy ≠ .tup l)
    (h1 : b.1 ≠ x) (h2 : b.1 ≠ y) (h3 : b.2 ≠ x) (h4 : b.2 ≠ y) : BlockAt A H' b r := by
  obtain ⟨lg, as, B⟩ := B
  have nt : ∀ {c l}, H c = some (.tup l) → c ≠ x ∧ c ≠ y := fun {c l} e => ⟨ne_of e hx fun q => nx l q.symm, ne_of e hy fun q => ny l q.symm⟩
  refine ⟨lg, as, ⟨?_, kp _ _ B.lst h3 h4, kp _ _ B.tup (nt B.tup).1 (nt B.tup).2, B.len, fun i q e => ?_⟩⟩
  · obtain ⟨dx, e⟩ := B.ins
    exact ⟨dx, kp _ _ e h1 h2⟩
  · obtain ⟨c, e1, e2⟩ := B.at_ i q e
    exact ⟨c, e1, kp _ _ e2 (nt e2).1 (nt e2).2⟩
theorem BodyIs.setAt (B : BodyIs A H p lb bs rs) {i : Nat} {b : Addr × Addr} {r r' : RB} (hb : bs[i]? = some b) (hr : rs[i]? = some r) (hB : BlockAt A H b r) (kp : ∀ c o, H c = some o → c ≠ b.1 → c ≠ b.2 → H' c = some o) (new : BlockAt A H' b r') :
    BodyIs A H' p lb bs (rs.set i r') := by
  obtain ⟨lg, as, hB⟩ := hB
  obtain ⟨dx0, hins⟩ := hB.ins
  have hi : i < bs.length := (List.getElem?_eq_some_iff.mp hb).1
  have nd := B.nd
  rw [List.nodup_cons, List.nodup_cons, List.nodup_append] at nd
  obtain ⟨n1, n2, n3, n4, n5⟩ := nd
  have m1 : b.1 ∈ bs.map (·.1) := List.mem_map.mpr ⟨b, List.mem_of_getElem? hb, rfl⟩
  have m2 : b.2 ∈ bs.map (·.2) := List.mem_map.mpr ⟨b, List.mem_of_getElem? hb, rfl⟩
  have np : ∀ {x}, x ∈ bs.map (·.1) ++ bs.map (·.2) → p ≠ x ∧ lb ≠ x := fun {x} hx => ⟨fun e => n1 (by rw [e]; exact List.mem_cons_of_mem _ hx), fun e => n2 (by rw [e]; exact hx)⟩
  have a1 := np (List.mem_append_left _ m1)
  have a2 := np (List.mem_append_right _ m2)
  refine ⟨B.nd, ?_, kp _ _ B.lst a1.2 a2.2, by rw [List.length_set]; exact B.len, fun j rj ej => ?_⟩
  · obtain ⟨dx, e⟩ := B.ins
    exact ⟨dx, kp _ _ e a1.1 a2.1⟩
  · by_cases hji : j = i
    · subst hji
      have hlt : j < rs.length := by rw [← B.len]; exact hi
      rw [List.getElem?_set_self hlt] at ej
      cases ej
      exact ⟨b, hb, new⟩
    · rw [List.getElem?_set_ne (fun q => hji q.symm)] at ej
      obtain ⟨b', eb', hb'⟩ := B.at_ j rj ej
      have k1 : (bs.map (·.1))[j]? = some b'.1 := by rw [List.getElem?_map, eb']; rfl
      have k2 : (bs.map (·.2))[j]? = some b'.2 := by rw [List.getElem?_map, eb']; rfl
      have l1 : (bs.map (·.1))[i]? = some b.1 := by rw [List.getElem?_map, hb]; rfl
      have l2 : (bs.map (·.2))[i]? = some b.2 := by rw [List.getElem?_map, hb]; rfl
      exact ⟨b', eb', hb'.keep kp hins hB.lst (fun l q => by cases q) (fun l q => by cases q)
        (fun q => hji (nd_ix n3 k1 (by rw [q]; exact l1))) (n5 _ (List.mem_of_getElem? k1) _ m2) (fun q => n5 _ m1 _ (List.mem_of_getElem? k2) q.symm) (fun q => hji (nd_ix n4 k2 (by rw [q]; exact l2)))⟩
end
theorem lk_blocks {v : V} : List.lookup ("blocks" : Str) [(("blocks" : Str), v)] = some v := rfl
section
variable {ls lg ls' lg' : Addr} {e v e' v' : Int}
theorem lk_steps : (bfs ls lg e v).lookup ("steps" : Str) = some (.ref ls) := rfl
theorem lk_end : (bfs ls lg e v).lookup ("end" : Str) = some (.int e) := rfl
theorem lk_variable : (bfs ls lg e v).lookup ("variable" : Str) = some (.int v) := rfl
theorem lk_goals : (bfs ls lg e v).lookup ("goals" : Str) = some (.ref lg) := rfl
theorem pf_end : putF "end" (.int e') (bfs ls lg e v) = bfs ls lg e' v := rfl
theorem pf_variable : putF "variable" (.int v') (bfs ls lg e v) = bfs ls lg e v' := rfl
theorem pf_goals : putF "goals" (.ref lg') (bfs ls lg e v) = bfs ls lg' e v := rfl
theorem pf_new : putF "goals" (.ref lg) (putF "variable" (.int v) (putF "end" (.int e) (putF "steps" (.ref ls) []))) = bfs ls lg e v := rfl
theorem bfs_len : (bfs ls lg e v).length = 4 := rfl
end
end BF
end


section
set_option Elab.async false
set_option linter.all false
set_option maxRecDepth 100000
set_option maxHeartbeats 4000000
namespace BF
open PySem PySem.Spec PyProof.Rows L2
variable {P : Program} {w : World} {K : PySem.W.Frag} {mg : Str → Option Value} {base : Heap} {A : Ad}
def hasB (rs : List RB) (b : Int) : Bool := decide (0 ≤ b ∧ b < rs.length)
def finB (rs : List RB) (b : Int) : Int := (rs[b.toNat]?.map (·.fin)).getD 9
def openB (rs : List RB) (b : Int) : Bool := hasB rs b && decide (finB rs b = 0)
def Sz (rs : List RB) : Prop := rs.length ≤ 64 ∧ ∀ r ∈ rs, r.steps.length ≤ 16
theorem hasB_get {rs : List RB} {b : Int} (h : hasB rs b = true) : ∃ (i : Nat) (r : RB), b = (i : Int) ∧ b.toNat = i ∧ rs[i]? = some r ∧ finB rs b = r.fin := by
  unfold hasB at h
  have h := of_decide_eq_true h
  have hi : b.toNat < rs.length := by omega
  exact ⟨b.toNat, rs[b.toNat], by omega, rfl, List.getElem?_eq_getElem hi, by unfold finB; rw [List.getElem?_eq_getElem hi]; rfl⟩
def spHas (A : Ad) : Sp := fun vs H Q _ => ∃ (p : Addr) (rs : List RB) (F : List Addr) (b : Int), vs = [.ref p, .int b] ∧ BodyAt A H p rs F ∧ Q (.bl (hasB rs b)) H
theorem d_Body_has_block (T : Txt K mg A) : DefM P w K mg base 1 A.Body "has_block" ["self", "b"] (spHas A) := by
  refine T.r_Body_has_block.def sc_Body_has_block (fun vs H Q E h => ?_) (fun f cdv A' outer s H vs Q E hr h => ?_)
  · obtain ⟨p, rs, F, b, rfl, _⟩ := h
    rfl
  · obtain ⟨p, rs, F, b, rfl, ⟨lb, bs, rfl, B⟩, k⟩ := h
    obtain ⟨dx, hp⟩ := B.ins
    refine ⟨_, (pss_one (ps_ret (pe_chain op_le op_lt pe_int (pv 1) (pe_callB call_len_seq (by rfl) T.b_len bt_len (pa_cons (pe_fld (pv 0) rfl) pa_nil))))), ?_⟩
    refine ⟨_, rfl, _, _, rfl, rfl, _, rfl, ?_⟩
    refine ite2 (fun h1 => ?_) (fun h1 => ?_)
    · refine ⟨_, rfl, p, _, _, _, _, rfl, hp, T.cl_Body, T.na_Body_blocks, lk_blocks, lb, _, rfl, .inl (SqL.of B.lst), _, _, rfl, rfl, ?_⟩
      exact Qb k (by simp only [hasB, decide_eq_decide]; have := B.len; simp at h1 ⊢; omega)
    · exact Qb k (by simp at h1; simp [hasB]; omega)
def spOpen (A : Ad) : Sp := fun vs H Q _ => ∃ (p : Addr) (rs : List RB) (F : List Addr) (b : Int), vs = [.ref p, .int b] ∧ BodyAt A H p rs F ∧ Q (.bl (openB rs b)) H
theorem d_Body_is_unended (T : Txt K mg A) : DefM P w K mg base 2 A.Body "is_unended" ["self", "b"] (spOpen A) := by
  refine T.r_Body_is_unended.def sc_Body_is_unended (fun vs H Q E h => ?_) (fun f cdv A' outer s H vs Q E hr h => ?_)
  · obtain ⟨p, rs, F, b, rfl, _⟩ := h
    rfl
  · obtain ⟨p, rs, F, b, rfl, BA, k⟩ := h
    obtain ⟨lb, bs, eF, B⟩ := BA
    obtain ⟨dx, hp⟩ := B.ins
    refine ⟨_, (pss_one (ps_ret (pe_and (pe_dm (pv 0) T.cl_Body (d_Body_has_block T) hr (pa_cons (pv 1) pa_nil)) (pe_one (pe_cmpR op_eq (pe_fld (pe_ix ix_list (pe_fld (pv 0) rfl) (pv 1) (fun _ _ => rfl)) rfl) (gl T.c_NO_END) (nomark _)))))), ?_⟩
    refine ⟨_, rfl, p, dx, _, rfl, hp, rfl, _, rfl, p, rs, F, b, rfl, ⟨lb, bs, eF, B⟩, _, rfl, ?_⟩
    refine ite2 (fun h1 => ?_) (fun h1 => ?_)
    · obtain ⟨i, r, e1, e2, e3, e4⟩ := hasB_get h1
      obtain ⟨c, hc, lg, as, BB⟩ := B.at_ i r e3
      obtain ⟨dc, hi⟩ := BB.ins
      refine ⟨_, rfl, p, _, _, _, _, rfl, hp, T.cl_Body, T.na_Body_blocks, lk_blocks, _, rfl, lb, _, _, _, rfl, rfl, SqL.of B.lst, at_of (j := i) e1 (by rw [List.getElem?_map, hc]; rfl), c.1, _, dc, _, _, rfl, hi, T.cl_Block, T.na_Block_end, lk_end, rfl, ?_⟩
      exact Qb k (by simp [openB, h1, e4])
    · exact Qb k (by simp [openB, h1])
end BF
end


section
set_option Elab.async false
set_option linter.all false
set_option maxRecDepth 100000
set_option maxHeartbeats 4000000
namespace BF
open PySem PySem.Spec PyProof.Rows L2
variable {P : Program} {w : World} {K : PySem.W.Frag} {mg : Str → Option Value} {base : Heap} {A : Ad}
theorem slots4 : (4 : Nat) < 1000 := by decide
def spBlockNew (A : Ad) : Sp := fun vs H Q _ => ∃ (p dx : Addr), vs = [.ref p] ∧ H p = some (.ins A.Block dx []) ∧ ∀ (H' : Hp) (ls lg : Addr), H ls = none → ls ≠ p → BlockIs A H' p ls lg [] ⟨[], 0, 0, []⟩ → (∀ b o, H b = some o → b ≠ p → H' b = some o) → Q .non H'
theorem d_Block_new (T : Txt K mg A) : DefC P w K mg base 1 A.Block "Block" ["self"] (spBlockNew A) := by
  obtain ⟨f, fd, F, M, m, b⟩ := T.r_Block_new
  refine ⟨f, fd, F.ok sc_Block_new (fun vs H Q E h => ?_) (fun cdv A' outer s H vs Q E hr h => ?_), M, m, b⟩
  · obtain ⟨p, dx, rfl, _⟩ := h
    rfl
  · obtain ⟨p, dx, rfl, hp, k⟩ := h
    refine ⟨_, (pss_cons (ps_fld (pv 0) (pe_lst pa_nil) rfl) (pss_cons (ps_fld (pv 0) (gl T.c_NO_END) rfl) (pss_cons (ps_fld (pv 0) pe_int rfl) (pss_one (ps_fld (pv 0) (pe_tup pa_nil) rfl))))), ?_⟩
    refine ⟨Nat.zero_le _, fun l hl => ⟨_, rfl, p, _, dx, [], rfl, ?_, T.cl_Block, T.na_Block_steps, (by show 0 < 1000; decide), ?_⟩⟩
    · rw [upd_ne (ne_of_none hp hl)]; exact hp
    refine ⟨_, rfl, p, _, dx, _, rfl, upd_same, T.cl_Block, T.na_Block_end, (by show 1 < 1000; decide), ?_⟩
    refine ⟨_, rfl, p, _, dx, _, rfl, upd_same, T.cl_Block, T.na_Block_variable, (by show 2 < 1000; decide), ?_⟩
    refine ⟨Nat.zero_le _, fun g hg => ⟨_, rfl, p, _, dx, _, rfl, (by rw [upd_ne (fun e => by rw [← e, upd_same] at hg; cases hg)]; exact upd_same), T.cl_Block, T.na_Block_goals, (by show 3 < 1000; decide), ?_⟩⟩
    have pl : l ≠ p := fun e => by rw [e, hp] at hl; cases hl
    have pg : g ≠ p := fun e => by rw [e, upd_same] at hg; cases hg
    have lg : l ≠ g := fun e => by
      rw [← e, upd_ne pl, upd_ne pl, upd_ne pl, upd_same] at hg; cases hg
    refine k _ l g hl pl ⟨⟨dx, upd_same⟩, ?_, ?_, rfl, fun i q e => by simp at e⟩ fun b o e hb => ?_
    · rw [upd_ne pl, upd_ne lg, upd_ne pl, upd_ne pl, upd_ne pl, upd_same]; rfl
    · rw [upd_ne pg, upd_same]; rfl
    · have nl : b ≠ l := ne_of_none e hl
      have ng : b ≠ g := fun q => by
        rw [← q, upd_ne hb, upd_ne hb, upd_ne hb, upd_ne nl, e] at hg; cases hg
      rw [upd_ne hb, upd_ne ng, upd_ne hb, upd_ne hb, upd_ne hb, upd_ne nl]; exact e
def spBodyNew (A : Ad) : Sp := fun vs H Q _ => ∃ (p dx : Addr), vs = [.ref p] ∧ H p = some (.ins A.Body dx []) ∧ ∀ (H' : Hp) (lb : Addr), H lb = none → BodyIs A H' p lb [] [] → (∀ b o, H b = some o → b ≠ p → H' b = some o) → Q .non H'
theorem d_Body_new (T : Txt K mg A) : DefC P w K mg base 1 A.Body "Body" ["self"] (spBodyNew A) := by
  obtain ⟨f, fd, F, M, m, b⟩ := T.r_Body_new
  refine ⟨f, fd, F.ok sc_Body_new (fun vs H Q E h => ?_) (fun cdv A' outer s H vs Q E hr h => ?_), M, m, b⟩
  · obtain ⟨p, dx, rfl, _⟩ := h
    rfl
  · obtain ⟨p, dx, rfl, hp, k⟩ := h
    refine ⟨_, (pss_one (ps_fld (pv 0) (pe_lst pa_nil) rfl)), ?_⟩
    refine ⟨Nat.zero_le _, fun l hl => ⟨_, rfl, p, _, dx, [], rfl, ?_, T.cl_Body, T.na_Body_blocks, (by show 0 < 1000; decide), ?_⟩⟩
    · rw [upd_ne (ne_of_none hp hl)]; exact hp
    have pl : l ≠ p := fun e => by rw [e, hp] at hl; cases hl
    refine k _ l hl ⟨by simp [pl.symm], ⟨dx, upd_same⟩, by rw [upd_ne pl, upd_same]; rfl, rfl, fun i r e => by simp at e⟩ fun b o e hb => ?_
    rw [upd_ne hb, upd_ne (ne_of_none e hl)]; exact e
def spMut (A : Ad) (n : Nat) (f : List RB → List Int → List RB × Int) : Sp := fun vs H Q _ => ∃ (p : Addr) (rs : List RB) (F : List Addr) (ns : List Int), vs = .ref p :: ns.map V.int ∧ ns.length = n ∧ BodyAt A H p rs F ∧ Sz rs ∧
  ∀ (H' : Hp) (F' : List Addr), BodyAt A H' p (f rs ns).1 F' → Keeps F H H' → Fresh H F F' → Q (.int (f rs ns).2) H'
def mInit (_ : List RB) (_ : List Int) : List RB × Int := ([], 0)
def mBlock (rs : List RB) (_ : List Int) : List RB × Int := if rs.length = 64 then (rs, -2) else (rs ++ [⟨[], 0, 0, []⟩], rs.length)
theorem d_Body_init (T : Txt K mg A) : DefM P w K mg base 1 A.Body "init" ["self"] (spMut A 0 mInit) := by
  refine T.r_Body_init.def sc_Body_init (fun vs H Q E h => ?_) (fun f cdv A' outer s H vs Q E hr h => ?_)
  · obtain ⟨p, rs, F, ns, rfl, e, _⟩ := h
    simp [e]
  · obtain ⟨p, rs, F, ns, rfl, e, ⟨lb, bs, rfl, B⟩, sz, k⟩ := h
    obtain rfl : ns = [] := List.eq_nil_of_length_eq_zero e
    obtain ⟨dx, hp⟩ := B.ins
    refine ⟨_, (pss_cons (ps_fld (pv 0) (pe_lst pa_nil) rfl) (pss_one (ps_ret pe_int))), ?_⟩
    refine ⟨Nat.zero_le _, fun l hl => ⟨_, rfl, p, _, dx, _, rfl, (by rw [upd_ne (ne_of_none hp hl)]; exact hp), T.cl_Body, T.na_Body_blocks, (by show 1 < 1000; decide), ?_⟩⟩
    have pl : l ≠ p := fun e => by rw [e, hp] at hl; cases hl
    refine k _ [p, l] ⟨l, [], rfl, by simp [pl.symm], ⟨dx, upd_same⟩, by rw [upd_ne pl, upd_same]; rfl, rfl, fun i r e => by simp [mInit] at e⟩ (fun b o e hb => ?_) (fun x hx => ?_)
    · rw [upd_ne (fun q => hb (by rw [q]; exact List.mem_cons_self ..)), upd_ne (ne_of_none e hl)]; exact e
    · rcases List.mem_cons.mp hx with rfl | hx
      · exact .inl (List.mem_cons_self ..)
      · rw [List.mem_singleton.mp hx]; exact .inr hl
theorem d_Body_block (T : Txt K mg A) : DefM P w K mg base 3 A.Body "block" ["self"] (spMut A 0 mBlock) := by
  refine T.r_Body_block.def sc_Body_block (fun vs H Q E h => ?_) (fun f cdv A' outer s H vs Q E hr h => ?_)
  · obtain ⟨p, rs, F, ns, rfl, e, _⟩ := h
    simp [e]
  · obtain ⟨p, rs, F, ns, rfl, e, ⟨lb, bs, rfl, B⟩, sz, k⟩ := h
    obtain rfl : ns = [] := List.eq_nil_of_length_eq_zero e
    obtain ⟨dx, hp⟩ := B.ins
    refine ⟨_, (pss_cons (ps_set (i := 1) sc_Body_block.nd rfl (Or.inl rfl) (pe_callB call_len_seq (by rfl) T.b_len bt_len (pa_cons (pe_fld (pv 0) rfl) pa_nil))) (pss_cons (ps_if (pt_cmpR op_eq (pv 1) (gl T.c_MOST_BLOCKS) (nomark _)) (pss_one (ps_ret (gl T.c_REFUSED))) pss_nil) (pss_cons (ps_expr (pe_bm PySem.F.plainAttrs_list PySem.F.slot_list_append PySem.F.type_list_append mt_append (pe_fld (pv 0) rfl) (pa_cons (pe_new0 (d_Block_new T) hr) pa_nil))) (pss_one (ps_ret (pv 1)))))), ?_⟩
    refine ⟨_, rfl, p, _, _, _, _, rfl, hp, T.cl_Body, T.na_Body_blocks, lk_blocks, lb, _, rfl, .inl (SqL.of B.lst), ?_⟩
    have hlen : (bs.map fun b => V.ref b.1).length = rs.length := by rw [List.length_map, B.len]
    refine ⟨_, rfl, rfl, _, rfl, ?_⟩
    refine ite2 (fun h1 => ?_) (fun h1 => ?_)
    · have e64 : rs.length = 64 := by
        have := of_decide_eq_true h1
        simp at this
        have := B.len
        omega
      have k' := k H _ (by unfold mBlock; rw [if_pos e64]; exact ⟨lb, bs, rfl, B⟩) Keeps.refl Fresh.refl
      unfold mBlock at k'
      rw [if_pos e64] at k'
      exact k'
    · have e64 : ¬ rs.length = 64 := fun q => by
        apply h1
        apply decide_eq_true
        rw [hlen, q]; rfl
      refine ⟨_, rfl, p, _, _, _, _, rfl, hp, T.cl_Body, T.na_Body_blocks, lk_blocks, .inl ⟨rfl, _, SqL.of B.lst⟩, ?_⟩
      intro x dx' nx ndx nex
      refine ⟨x, dx', rfl, upd_same, fun H' ls lg hls lsx BB kp => ⟨rfl, ?_⟩⟩
      have kp2 : ∀ b o, H b = some o → H' b = some o := fun b o e => kp b o (by rw [upd_ne (ne_of_none e nx), upd_ne (ne_of_none e ndx)]; exact e) (ne_of_none e nx)
      have nls : H ls = none := by
        have : ls ≠ dx' := fun e => by rw [e, upd_ne nex, upd_same] at hls; cases hls
        rw [upd_ne lsx, upd_ne this] at hls; exact hls
      refine ⟨lb, _, _, rfl, rfl, kp2 _ _ B.lst, ?_, _, rfl, ?_⟩
      · rw [hlen]; exact Nat.lt_of_le_of_lt sz.1 (by decide)
      have nlb : ∀ {c}, c ≠ lb → (upd H' lb (.lst ((bs.map fun b => V.ref b.1) ++ [V.ref x]))) c = H' c := fun h => upd_ne h
      have xlb : x ≠ lb := fun e => by rw [e, B.lst] at nx; cases nx
      have llb : ls ≠ lb := fun e => by rw [e, B.lst] at nls; cases nls
      have plb : p ≠ lb := ne_of hp B.lst (by intro q; cases q)
      have hm : ∀ c ∈ p :: lb :: (bs.map (·.1) ++ bs.map (·.2)), ∃ o, H c = some o := fun c hc => by
        rcases List.mem_cons.mp hc with rfl | hc
        · exact ⟨_, hp⟩
        rcases List.mem_cons.mp hc with rfl | hc
        · exact ⟨_, B.lst⟩
        rcases List.mem_append.mp hc with hc | hc
        all_goals
          obtain ⟨b, hb, rfl⟩ := List.mem_map.mp hc
          obtain ⟨i, hi⟩ := List.getElem?_of_mem hb
          have hlt : i < rs.length := by rw [← B.len]; exact (List.getElem?_eq_some_iff.mp hi).1
          obtain ⟨b', e1, lg', as', BB'⟩ := B.at_ i _ (List.getElem?_eq_getElem hlt)
          rw [hi] at e1; cases e1
        · obtain ⟨d, e⟩ := BB'.ins; exact ⟨_, e⟩
        · exact ⟨_, BB'.lst⟩
      have nin : ∀ c, H c = none → c ∉ p :: lb :: (bs.map (·.1) ++ bs.map (·.2)) := fun c hc m => by
        obtain ⟨o, e⟩ := hm c m
        rw [hc] at e; cases e
      have nd2 : (p :: lb :: ((bs ++ [(x, ls)]).map (·.1) ++ (bs ++ [(x, ls)]).map (·.2))).Nodup := by
        have h0 := B.nd
        have hx := nin x nx
        have hl := nin ls nls
        have xl : x ≠ ls := fun e => lsx e.symm
        simp only [List.map_append, List.map_cons, List.map_nil, List.nodup_cons, List.mem_cons, List.mem_append, not_or, List.nodup_append, List.mem_singleton, List.not_mem_nil, not_false_iff, List.nodup_nil, and_true, true_and, or_false] at h0 hx hl ⊢
        obtain ⟨⟨q1, q2, q3⟩, ⟨q4, q5⟩, q6, q7, q8⟩ := h0
        obtain ⟨x1, x2, x3, x4⟩ := hx
        obtain ⟨l1, l2, l3, l4⟩ := hl
        refine ⟨⟨q1, ⟨q2, fun e => x1 e.symm⟩, q3, fun e => l1 e.symm⟩, ⟨⟨q4, fun e => x2 e.symm⟩, q5, fun e => l2 e.symm⟩, ⟨q6, fun a ha b hb => by rw [hb]; intro e; rw [e] at ha; exact x3 ha⟩, ⟨q7, fun a ha b hb => by rw [hb]; intro e; rw [e] at ha; exact l4 ha⟩, ?_⟩
        rintro a (ha | rfl) b (hb | rfl)
        · exact q8 a ha b hb
        · intro e; rw [e] at ha; exact l3 ha
        · intro e; rw [← e] at hb; exact x4 hb
        · exact xl
      have k' := k (upd H' lb (.lst ((bs.map fun b => V.ref b.1) ++ [V.ref x]))) (p :: lb :: ((bs ++ [(x, ls)]).map (·.1) ++ (bs ++ [(x, ls)]).map (·.2))) (by
        unfold mBlock
        rw [if_neg e64]
        refine ⟨lb, bs ++ [(x, ls)], rfl, nd2, ⟨dx, by rw [upd_ne plb]; exact kp2 _ _ hp⟩, by rw [upd_same, List.map_append]; rfl, by simp [B.len], fun i r e => ?_⟩
        have keepB : ∀ {b r}, BlockAt A H' b r → b.1 ≠ lb → b.2 ≠ lb → BlockAt A (upd H' lb (.lst ((bs.map fun b => V.ref b.1) ++ [V.ref x]))) b r := fun {b r} hb h1 h2 =>
          hb.keep (x := lb) (y := lb) (fun c o e n1 _ => by rw [upd_ne n1]; exact e) (kp2 _ _ B.lst) (kp2 _ _ B.lst) (fun l q => by cases q) (fun l q => by cases q) h1 h1 h2 h2
        by_cases hi : i < rs.length
        · rw [List.getElem?_append_left hi] at e
          obtain ⟨b, e1, e2⟩ := B.at_ i r e
          have hib : i < bs.length := by rw [B.len]; exact hi
          have mb := List.mem_of_getElem? e1
          have h0 := B.nd
          rw [List.nodup_cons, List.nodup_cons] at h0
          exact ⟨b, by rw [List.getElem?_append_left hib]; exact e1, keepB (e2.same kp2) (fun q => h0.2.1 (by rw [← q]; exact List.mem_append_left _ (List.mem_map.mpr ⟨b, mb, rfl⟩))) (fun q => h0.2.1 (by rw [← q]; exact List.mem_append_right _ (List.mem_map.mpr ⟨b, mb, rfl⟩)))⟩
        · rw [List.getElem?_append_right (by omega)] at e
          have ei : i - rs.length = 0 := by
            cases q : i - rs.length with
            | zero => rfl
            | succ n => rw [q] at e; simp at e
          rw [ei] at e
          cases e
          exact ⟨(x, ls), by rw [List.getElem?_append_right (by rw [B.len]; omega), B.len, ei]; rfl, keepB ⟨lg, [], BB⟩ xlb llb⟩)
        (fun b o e hb => by rw [upd_ne (fun q => hb (by rw [q]; exact List.mem_cons_of_mem _ (List.mem_cons_self ..)))]; exact kp2 _ _ e)
        (fun c hc => by
          simp only [List.map_append, List.map_cons, List.map_nil, List.mem_cons, List.mem_append, List.not_mem_nil, or_false] at hc ⊢
          rcases hc with rfl | rfl | (hc | rfl) | (hc | rfl)
          · exact .inl (.inl rfl)
          · exact .inl (.inr (.inl rfl))
          · exact .inl (.inr (.inr (.inl hc)))
          · exact .inr nx
          · exact .inl (.inr (.inr (.inr hc)))
          · exact .inr nls)
      unfold mBlock at k'
      rw [if_neg e64] at k'
      exact Qi k' (by rw [hlen])
end BF
end


section
set_option Elab.async false
set_option linter.all false
set_option maxRecDepth 100000
set_option maxHeartbeats 4000000
namespace BF
open PySem PySem.Spec PyProof.Rows L2
variable {P : Program} {w : World} {K : PySem.W.Frag} {mg : Str → Option Value} {base : Heap} {A : Ad}
theorem modify_set {α : Type} {g : α → α} : ∀ {l : List α} {i : Nat} {r : α}, l[i]? = some r → l.modify i g = l.set i (g r)
  | [], i, r, h => by simp at h
  | a :: l, 0, r, h => by
    have e : a = r := Option.some.inj h
    subst e; rfl
  | a :: l, i + 1, r, h => by
    have e := modify_set (g := g) (l := l) (i := i) (r := r) h
    show a :: l.modify i g = a :: l.set i (g r)
    rw [e]
def mOn (rs : List RB) (b : Int) (ok : Bool) (g : RB → RB) : List RB × Int := if (openB rs b && ok) = true then (rs.modify b.toNat g, 0) else (rs, -2)
def n0 (ns : List Int) : Int := ns.getD 0 0
def n1 (ns : List Int) : Int := ns.getD 1 0
def n2 (ns : List Int) : Int := ns.getD 2 0
def n3 (ns : List Int) : Int := ns.getD 3 0
def n4 (ns : List Int) : Int := ns.getD 4 0
def stepsB (rs : List RB) (b : Int) : Nat := (rs[b.toNat]?.map (·.steps.length)).getD 0
def mOp (rs : List RB) (ns : List Int) : List RB × Int := mOn rs (n0 ns) (isS (n1 ns) (n2 ns) (n3 ns) (n4 ns) && !decide (stepsB rs (n0 ns) = 16)) fun r => { r with steps := r.steps ++ [(n1 ns, n2 ns, n3 ns, n4 ns)] }
def mJump (rs : List RB) (ns : List Int) : List RB × Int := mOn rs (n0 ns) (isT (n1 ns)) fun r => { r with fin := 1, goals := [n1 ns] }
def mBranch (rs : List RB) (ns : List Int) : List RB × Int := mOn rs (n0 ns) (isV (n1 ns) && isT (n2 ns) && isT (n3 ns)) fun r => { r with fin := 2, var := n1 ns, goals := [n2 ns, n3 ns] }
def mRet (rs : List RB) (ns : List Int) : List RB × Int := mOn rs (n0 ns) (isV (n1 ns)) fun r => { r with fin := 3, var := n1 ns }
theorem mOn_no {Q : VK} {H : Hp} {p : Addr} {rs : List RB} {F : List Addr} {b : Int} {ok : Bool} {g : RB → RB} (k : ∀ (H' : Hp) (F' : List Addr), BodyAt A H' p (mOn rs b ok g).1 F' → Keeps F H H' → Fresh H F F' → Q (.int (mOn rs b ok g).2) H') (B : BodyAt A H p rs F) (h : (openB rs b && ok) = false) : Q (.int (-2)) H := by
  have e : mOn rs b ok g = (rs, -2) := by unfold mOn; rw [h]; rfl
  rw [e] at k
  exact k H F B Keeps.refl Fresh.refl
theorem mOn_yes {Q : VK} {H H' : Hp} {p lb : Addr} {bs : List (Addr × Addr)} {rs : List RB} {b : Int} {ok : Bool} {g : RB → RB} {i : Nat} {c : Addr × Addr} {r : RB}
    (k : ∀ (H' : Hp) (F' : List Addr), BodyAt A H' p (mOn rs b ok g).1 F' → Keeps (p :: lb :: (bs.map (·.1) ++ bs.map (·.2))) H H' → Fresh H (p :: lb :: (bs.map (·.1) ++ bs.map (·.2))) F' → Q (.int (mOn rs b ok g).2) H') (B : BodyIs A H p lb bs rs)
    (h : (openB rs b && ok) = true) (hc : bs[i]? = some c) (hr : rs[i]? = some r) (hi : b.toNat = i) (hB : BlockAt A H c r) (kp : ∀ x o, H x = some o → x ≠ c.1 → x ≠ c.2 → H' x = some o) (new : BlockAt A H' c (g r)) : Q (.int 0) H' := by
  have e : mOn rs b ok g = (rs.set i (g r), 0) := by unfold mOn; rw [h, hi, modify_set hr]; rfl
  rw [e] at k
  have m := List.mem_of_getElem? hc
  refine k H' _ ⟨lb, bs, rfl, B.setAt hc hr hB kp new⟩ (fun x o ex hx => kp x o ex (fun q => hx ?_) (fun q => hx ?_)) Fresh.refl
  · rw [q]; exact List.mem_cons_of_mem _ (List.mem_cons_of_mem _ (List.mem_append_left _ (List.mem_map.mpr ⟨c, m, rfl⟩)))
  · rw [q]; exact List.mem_cons_of_mem _ (List.mem_cons_of_mem _ (List.mem_append_right _ (List.mem_map.mpr ⟨c, m, rfl⟩)))
theorem openB_get {rs : List RB} {b : Int} (h : openB rs b = true) : ∃ (i : Nat) (r : RB), b = (i : Int) ∧ b.toNat = i ∧ rs[i]? = some r ∧ r.fin = 0 := by
  unfold openB at h
  rw [Bool.and_eq_true] at h
  obtain ⟨i, r, e1, e2, e3, e4⟩ := hasB_get h.1
  exact ⟨i, r, e1, e2, e3, by rw [← e4]; exact of_decide_eq_true h.2⟩
theorem d_Body_jump (T : Txt K mg A) : DefM P w K mg base 3 A.Body "jump" ["self", "b", "to"] (spMut A 2 mJump) := by
  refine T.r_Body_jump.def sc_Body_jump (fun vs H Q E h => ?_) (fun f cdv A' outer s H vs Q E hr h => ?_)
  · obtain ⟨p, rs, F, ns, rfl, e, _⟩ := h
    simp [e]
  · obtain ⟨p, rs, F, ns, rfl, e, BA, sz, k⟩ := h
    obtain ⟨b, to, rfl⟩ : ∃ b to, ns = [b, to] := match ns, e with | [b, to], _ => ⟨b, to, rfl⟩
    have BA2 := BA
    obtain ⟨lb, bs, rfl, B⟩ := BA2
    obtain ⟨dx, hp⟩ := B.ins
    refine ⟨_, (pss_cons (ps_if (PW.pt (pw_or (pt_not (pt_val (pe_dm (pv 0) T.cl_Body (d_Body_is_unended T) hr (pa_cons (pv 1) pa_nil)))) (pw_or1 (pt_not (pt_val (pe_def (d_is_goal T) hr (pa_cons (pv 2) pa_nil))))))) (pss_one (ps_ret (gl T.c_REFUSED))) pss_nil) (pss_cons (ps_set (i := 3) sc_Body_jump.nd rfl (Or.inl rfl) (pe_ix ix_list (pe_fld (pv 0) rfl) (pv 1) (fun _ _ => rfl))) (pss_cons (ps_fld (pv 3) (gl T.c_JUMP_END) rfl) (pss_cons (ps_fld (pv 3) (pe_tup (pa_cons (pv 2) pa_nil)) rfl) (pss_one (ps_ret pe_int)))))), ?_⟩
    refine ⟨_, rfl, p, dx, _, rfl, hp, rfl, _, rfl, p, rs, _, b, rfl, BA, _, rfl, ?_⟩
    refine ite2 (fun h1 => iteT ?_) (fun h1 => ?_)
    · refine mOn_no k BA ?_
      have : openB rs b = false := by simpa using h1
      show (openB rs b && _) = false
      rw [this]; rfl
    have h1 : openB rs b = true := by simpa using h1
    refine ⟨_, rfl, to, rfl, _, rfl, ?_⟩
    refine ite2 (fun h2 => ?_) (fun h2 => ?_)
    · refine mOn_no k BA ?_
      have : isT to = false := by simpa using h2
      show (_ && isT to) = false
      rw [this, Bool.and_false]
    have h2 : isT to = true := by simpa using h2
    obtain ⟨i, r, e1, e2, e3, e4⟩ := openB_get h1
    obtain ⟨c, hc, BB⟩ := B.at_ i r e3
    have BB2 := BB
    obtain ⟨lg, as, BI⟩ := BB2
    obtain ⟨dc, hi⟩ := BI.ins
    refine ⟨_, rfl, p, _, _, _, _, rfl, hp, T.cl_Body, T.na_Body_blocks, lk_blocks, _, rfl, lb, _, _, _, rfl, rfl, SqL.of B.lst, at_of (j := i) e1 (by rw [List.getElem?_map, hc]; rfl), ?_⟩
    refine ⟨_, rfl, c.1, _, dc, _, rfl, hi, T.cl_Block, T.na_Block_end, (by show 4 < 1000; decide), ?_⟩
    refine ⟨_, rfl, (by show 1 ≤ sizeLine; decide), fun g hg => ⟨_, rfl, c.1, _, dc, _, rfl, (by rw [upd_ne (fun e => by rw [← e, upd_same] at hg; cases hg)]; exact upd_same), T.cl_Block, T.na_Block_goals, (by show 4 < 1000; decide), ?_⟩⟩
    have gc : g ≠ c.1 := fun e => by rw [e, upd_same] at hg; cases hg
    have gn : H g = none := by rw [upd_ne gc] at hg; exact hg
    have kp : ∀ x o, H x = some o → x ≠ c.1 → (upd (upd (upd H c.1 (.ins A.Block dc (bfs c.2 lg 1 r.var))) g (.tup [V.int to])) c.1 (.ins A.Block dc (bfs c.2 g 1 r.var))) x = some o := fun x o ex n => by
      rw [upd_ne n, upd_ne (ne_of_none ex gn), upd_ne n]; exact ex
    have lc : c.2 ≠ c.1 := ne_of BI.lst hi (by intro q; cases q)
    refine mOn_yes k B (by show (openB rs b && isT to) = true; rw [h1, h2]; rfl) hc e3 e2 BB (fun x o ex n _ => kp x o ex n) ⟨g, as, ⟨dc, upd_same⟩, kp _ _ BI.lst lc, ?_, BI.len, fun j q ej => ?_⟩
    · rw [upd_ne gc, upd_same]; rfl
    · obtain ⟨a, ea, ha⟩ := BI.at_ j q ej
      exact ⟨a, ea, kp _ _ ha (ne_of ha hi (by intro q; cases q))⟩
theorem d_Body_branch (T : Txt K mg A) : DefM P w K mg base 3 A.Body "branch" ["self", "b", "v", "yes", "no"] (spMut A 4 mBranch) := by
  refine T.r_Body_branch.def sc_Body_branch (fun vs H Q E h => ?_) (fun f cdv A' outer s H vs Q E hr h => ?_)
  · obtain ⟨p, rs, F, ns, rfl, e, _⟩ := h
    simp [e]
  · obtain ⟨p, rs, F, ns, rfl, e, BA, sz, k⟩ := h
    obtain ⟨b, v, y, n, rfl⟩ : ∃ b v y n, ns = [b, v, y, n] := match ns, e with | [b, v, y, n], _ => ⟨b, v, y, n, rfl⟩
    have BA2 := BA
    obtain ⟨lb, bs, rfl, B⟩ := BA2
    obtain ⟨dx, hp⟩ := B.ins
    refine ⟨_, (pss_cons (ps_if (PW.pt (pw_or (pt_not (pt_val (pe_dm (pv 0) T.cl_Body (d_Body_is_unended T) hr (pa_cons (pv 1) pa_nil)))) (pw_or1 (pt_not (pt_val (pe_def (d_is_variable T) hr (pa_cons (pv 2) pa_nil))))))) (pss_one (ps_ret (gl T.c_REFUSED))) pss_nil) (pss_cons (ps_if (PW.pt (pw_or (pt_not (pt_val (pe_def (d_is_goal T) hr (pa_cons (pv 3) pa_nil)))) (pw_or1 (pt_not (pt_val (pe_def (d_is_goal T) hr (pa_cons (pv 4) pa_nil))))))) (pss_one (ps_ret (gl T.c_REFUSED))) pss_nil) (pss_cons (ps_set (i := 5) sc_Body_branch.nd rfl (Or.inl rfl) (pe_ix ix_list (pe_fld (pv 0) rfl) (pv 1) (fun _ _ => rfl))) (pss_cons (ps_fld (pv 5) (gl T.c_BRANCH_END) rfl) (pss_cons (ps_fld (pv 5) (pv 2) rfl) (pss_cons (ps_fld (pv 5) (pe_tup (pa_cons (pv 3) (pa_cons (pv 4) pa_nil))) rfl) (pss_one (ps_ret pe_int)))))))), ?_⟩
    refine ⟨_, rfl, p, dx, _, rfl, hp, rfl, _, rfl, p, rs, _, b, rfl, BA, _, rfl, ?_⟩
    refine ite2 (fun h1 => iteT ?_) (fun h1 => ?_)
    · refine mOn_no k BA ?_
      have : openB rs b = false := by simpa using h1
      show (openB rs b && _) = false
      rw [this]; rfl
    have h1 : openB rs b = true := by simpa using h1
    refine ⟨_, rfl, v, rfl, _, rfl, ?_⟩
    refine ite2 (fun h2 => ?_) (fun h2 => ?_)
    · refine mOn_no k BA ?_
      have : isV v = false := by simpa using h2
      show (_ && (isV v && _ && _)) = false
      rw [this]; simp
    have h2 : isV v = true := by simpa using h2
    refine ⟨_, rfl, y, rfl, _, rfl, ?_⟩
    refine ite2 (fun h3 => iteT ?_) (fun h3 => ?_)
    · refine mOn_no k BA ?_
      have : isT y = false := by simpa using h3
      show (_ && (_ && isT y && _)) = false
      rw [this]; simp
    have h3 : isT y = true := by simpa using h3
    refine ⟨_, rfl, n, rfl, _, rfl, ?_⟩
    refine ite2 (fun h4 => ?_) (fun h4 => ?_)
    · refine mOn_no k BA ?_
      have : isT n = false := by simpa using h4
      show (_ && (_ && _ && isT n)) = false
      rw [this]; simp
    have h4 : isT n = true := by simpa using h4
    obtain ⟨i, r, e1, e2, e3, e4⟩ := openB_get h1
    obtain ⟨c, hc, BB⟩ := B.at_ i r e3
    have BB2 := BB
    obtain ⟨lg, as, BI⟩ := BB2
    obtain ⟨dc, hi⟩ := BI.ins
    refine ⟨_, rfl, p, _, _, _, _, rfl, hp, T.cl_Body, T.na_Body_blocks, lk_blocks, _, rfl, lb, _, _, _, rfl, rfl, SqL.of B.lst, at_of (j := i) e1 (by rw [List.getElem?_map, hc]; rfl), ?_⟩
    refine ⟨_, rfl, c.1, _, dc, _, rfl, hi, T.cl_Block, T.na_Block_end, (by show 4 < 1000; decide), ?_⟩
    refine ⟨_, rfl, _, rfl, c.1, _, dc, _, rfl, upd_same, T.cl_Block, T.na_Block_variable, (by show 4 < 1000; decide), ?_⟩
    refine ⟨_, rfl, _, rfl, (by show 2 ≤ sizeLine; decide), fun g hg => ⟨_, rfl, c.1, _, dc, _, rfl, (by rw [upd_ne (fun e => by rw [← e, upd_same] at hg; cases hg)]; exact upd_same), T.cl_Block, T.na_Block_goals, (by show 4 < 1000; decide), ?_⟩⟩
    have gc : g ≠ c.1 := fun e => by rw [e, upd_same] at hg; cases hg
    have gn : H g = none := by rw [upd_ne gc, upd_ne gc] at hg; exact hg
    have kp : ∀ x o, H x = some o → x ≠ c.1 → (upd (upd (upd (upd H c.1 (.ins A.Block dc (bfs c.2 lg 2 r.var))) c.1 (.ins A.Block dc (bfs c.2 lg 2 v))) g (.tup [V.int y, V.int n])) c.1 (.ins A.Block dc (bfs c.2 g 2 v))) x = some o := fun x o ex n => by
      rw [upd_ne n, upd_ne (ne_of_none ex gn), upd_ne n, upd_ne n]; exact ex
    have lc : c.2 ≠ c.1 := ne_of BI.lst hi (by intro q; cases q)
    refine mOn_yes k B (by show (openB rs b && (isV v && isT y && isT n)) = true; rw [h1, h2, h3, h4]; rfl) hc e3 e2 BB (fun x o ex n _ => kp x o ex n) ⟨g, as, ⟨dc, upd_same⟩, kp _ _ BI.lst lc, ?_, BI.len, fun j q ej => ?_⟩
    · rw [upd_ne gc, upd_same]; rfl
    · obtain ⟨a, ea, ha⟩ := BI.at_ j q ej
      exact ⟨a, ea, kp _ _ ha (ne_of ha hi (by intro q; cases q))⟩
theorem d_Body_ret (T : Txt K mg A) : DefM P w K mg base 3 A.Body "ret" ["self", "b", "v"] (spMut A 2 mRet) := by
  refine T.r_Body_ret.def sc_Body_ret (fun vs H Q E h => ?_) (fun f cdv A' outer s H vs Q E hr h => ?_)
  · obtain ⟨p, rs, F, ns, rfl, e, _⟩ := h
    simp [e]
  · obtain ⟨p, rs, F, ns, rfl, e, BA, sz, k⟩ := h
    obtain ⟨b, v, rfl⟩ : ∃ b v, ns = [b, v] := match ns, e with | [b, v], _ => ⟨b, v, rfl⟩
    have BA2 := BA
    obtain ⟨lb, bs, rfl, B⟩ := BA2
    obtain ⟨dx, hp⟩ := B.ins
    refine ⟨_, (pss_cons (ps_if (PW.pt (pw_or (pt_not (pt_val (pe_dm (pv 0) T.cl_Body (d_Body_is_unended T) hr (pa_cons (pv 1) pa_nil)))) (pw_or1 (pt_not (pt_val (pe_def (d_is_variable T) hr (pa_cons (pv 2) pa_nil))))))) (pss_one (ps_ret (gl T.c_REFUSED))) pss_nil) (pss_cons (ps_set (i := 3) sc_Body_ret.nd rfl (Or.inl rfl) (pe_ix ix_list (pe_fld (pv 0) rfl) (pv 1) (fun _ _ => rfl))) (pss_cons (ps_fld (pv 3) (gl T.c_RET_END) rfl) (pss_cons (ps_fld (pv 3) (pv 2) rfl) (pss_one (ps_ret pe_int)))))), ?_⟩
    refine ⟨_, rfl, p, dx, _, rfl, hp, rfl, _, rfl, p, rs, _, b, rfl, BA, _, rfl, ?_⟩
    refine ite2 (fun h1 => iteT ?_) (fun h1 => ?_)
    · refine mOn_no k BA ?_
      have : openB rs b = false := by simpa using h1
      show (openB rs b && _) = false
      rw [this]; rfl
    have h1 : openB rs b = true := by simpa using h1
    refine ⟨_, rfl, v, rfl, _, rfl, ?_⟩
    refine ite2 (fun h2 => ?_) (fun h2 => ?_)
    · refine mOn_no k BA ?_
      have : isV v = false := by simpa using h2
      show (_ && isV v) = false
      rw [this, Bool.and_false]
    have h2 : isV v = true := by simpa using h2
    obtain ⟨i, r, e1, e2, e3, e4⟩ := openB_get h1
    obtain ⟨c, hc, BB⟩ := B.at_ i r e3
    have BB2 := BB
    obtain ⟨lg, as, BI⟩ := BB2
    obtain ⟨dc, hi⟩ := BI.ins
    refine ⟨_, rfl, p, _, _, _, _, rfl, hp, T.cl_Body, T.na_Body_blocks, lk_blocks, _, rfl, lb, _, _, _, rfl, rfl, SqL.of B.lst, at_of (j := i) e1 (by rw [List.getElem?_map, hc]; rfl), ?_⟩
    refine ⟨_, rfl, c.1, _, dc, _, rfl, hi, T.cl_Block, T.na_Block_end, (by show 4 < 1000; decide), ?_⟩
    refine ⟨_, rfl, _, rfl, c.1, _, dc, _, rfl, upd_same, T.cl_Block, T.na_Block_variable, (by show 4 < 1000; decide), ?_⟩
    have kp : ∀ x o, H x = some o → x ≠ c.1 → (upd (upd H c.1 (.ins A.Block dc (bfs c.2 lg 3 r.var))) c.1 (.ins A.Block dc (bfs c.2 lg 3 v))) x = some o := fun x o ex n => by
      rw [upd_ne n, upd_ne n]; exact ex
    have lc : c.2 ≠ c.1 := ne_of BI.lst hi (by intro q; cases q)
    refine mOn_yes k B (by show (openB rs b && isV v) = true; rw [h1, h2]; rfl) hc e3 e2 BB (fun x o ex n _ => kp x o ex n) ⟨lg, as, ⟨dc, upd_same⟩, kp _ _ BI.lst lc, kp _ _ BI.tup (ne_of BI.tup hi (by intro q; cases q)), BI.len, fun j q ej => ?_⟩
    obtain ⟨a, ea, ha⟩ := BI.at_ j q ej
    exact ⟨a, ea, kp _ _ ha (ne_of ha hi (by intro q; cases q))⟩
theorem d_Body_op (T : Txt K mg A) : DefM P w K mg base 3 A.Body "op" ["self", "b", "op", "d", "x", "y"] (spMut A 5 mOp) := by
  refine T.r_Body_op.def sc_Body_op (fun vs H Q E h => ?_) (fun f cdv A' outer s H vs Q E hr h => ?_)
  · obtain ⟨p, rs, F, ns, rfl, e, _⟩ := h
    simp [e]
  · obtain ⟨p, rs, F, ns, rfl, e, BA, sz, k⟩ := h
    obtain ⟨b, op, d, x, y, rfl⟩ : ∃ b op d x y, ns = [b, op, d, x, y] := match ns, e with | [b, op, d, x, y], _ => ⟨b, op, d, x, y, rfl⟩
    have BA2 := BA
    obtain ⟨lb, bs, rfl, B⟩ := BA2
    obtain ⟨dx, hp⟩ := B.ins
    refine ⟨_, (pss_cons (ps_if (PW.pt (pw_or (pt_not (pt_val (pe_dm (pv 0) T.cl_Body (d_Body_is_unended T) hr (pa_cons (pv 1) pa_nil)))) (pw_or1 (pt_not (pt_val (pe_def (d_is_step T) hr (pa_cons (pv 2) (pa_cons (pv 3) (pa_cons (pv 4) (pa_cons (pv 5) pa_nil)))))))))) (pss_one (ps_ret (gl T.c_REFUSED))) pss_nil) (pss_cons (ps_set (i := 6) sc_Body_op.nd rfl (Or.inl rfl) (pe_fld (pe_ix ix_list (pe_fld (pv 0) rfl) (pv 1) (fun _ _ => rfl)) rfl)) (pss_cons (ps_if (pt_cmpR op_eq (pe_callB call_len_seq (by rfl) T.b_len bt_len (pa_cons (pv 6) pa_nil)) (gl T.c_MOST_STEPS) (nomark _)) (pss_one (ps_ret (gl T.c_REFUSED))) pss_nil) (pss_cons (ps_expr (pe_bm PySem.F.plainAttrs_list PySem.F.slot_list_append PySem.F.type_list_append mt_append (pv 6) (pa_cons (pe_tup (pa_cons (pv 2) (pa_cons (pv 3) (pa_cons (pv 4) (pa_cons (pv 5) pa_nil))))) pa_nil))) (pss_one (ps_ret pe_int)))))), ?_⟩
    refine ⟨_, rfl, p, dx, _, rfl, hp, rfl, _, rfl, p, rs, _, b, rfl, BA, _, rfl, ?_⟩
    refine ite2 (fun h1 => iteT ?_) (fun h1 => ?_)
    · refine mOn_no k BA ?_
      have : openB rs b = false := by simpa using h1
      show (openB rs b && _) = false
      rw [this]; rfl
    have h1 : openB rs b = true := by simpa using h1
    refine ⟨_, rfl, _, rfl, _, rfl, _, rfl, op, d, x, y, rfl, _, rfl, ?_⟩
    refine ite2 (fun h2 => ?_) (fun h2 => ?_)
    · refine mOn_no k BA ?_
      have : isS op d x y = false := by simpa using h2
      show (_ && (isS op d x y && _)) = false
      rw [this]; simp
    have h2 : isS op d x y = true := by simpa using h2
    obtain ⟨i, r, e1, e2, e3, e4⟩ := openB_get h1
    obtain ⟨c, hc, BB⟩ := B.at_ i r e3
    have BB2 := BB
    obtain ⟨lg, as, BI⟩ := BB2
    obtain ⟨dc, hi⟩ := BI.ins
    have est : stepsB rs b = r.steps.length := by unfold stepsB; rw [e2, e3]; rfl
    refine ⟨_, rfl, p, _, _, _, _, rfl, hp, T.cl_Body, T.na_Body_blocks, lk_blocks, _, rfl, lb, _, _, _, rfl, rfl, SqL.of B.lst, at_of (j := i) e1 (by rw [List.getElem?_map, hc]; rfl), ?_⟩
    refine ⟨c.1, _, dc, _, _, rfl, hi, T.cl_Block, T.na_Block_steps, lk_steps, ?_⟩
    refine ⟨_, rfl, c.2, _, rfl, .inl (SqL.of BI.lst), rfl, _, rfl, ?_⟩
    have hl : (as.map V.ref).length = r.steps.length := by rw [List.length_map]; exact BI.len
    refine ite2 (fun h3 => ?_) (fun h3 => ?_)
    · refine mOn_no k BA ?_
      have : stepsB rs b = 16 := by
        have q := of_decide_eq_true h3
        rw [hl] at q
        have := V.int.inj q
        omega
      show (_ && (_ && !decide (stepsB rs b = 16))) = false
      rw [this]; simp
    have h3 : stepsB rs b ≠ 16 := fun q => h3 (decide_eq_true (by rw [hl, ← est, q]; rfl))
    have r16 : r.steps.length ≤ 16 := sz.2 r (List.mem_of_getElem? e3)
    refine ⟨_, rfl, .inl ⟨rfl, _, SqL.of BI.lst⟩, _, rfl, _, rfl, _, rfl, _, rfl, (by show 4 ≤ sizeLine; decide), fun t ht => ?_⟩
    have nlt : c.2 ≠ t := ne_of_none BI.lst ht
    refine ⟨c.2, _, _, rfl, rfl, (by rw [upd_ne nlt]; exact BI.lst), (by rw [hl]; exact Nat.lt_of_le_of_lt r16 (by decide)), ?_⟩
    have kp : ∀ z o, H z = some o → z ≠ c.2 → (upd (upd H t (.tup [V.int op, V.int d, V.int x, V.int y])) c.2 (.lst (as.map V.ref ++ [V.ref t]))) z = some o := fun z o ez n => by
      rw [upd_ne n, upd_ne (ne_of_none ez ht)]; exact ez
    have lc : c.1 ≠ c.2 := ne_of hi BI.lst (by intro q; cases q)
    refine mOn_yes k B (by show (openB rs b && (isS op d x y && !decide (stepsB rs b = 16))) = true; rw [h1, h2]; simp [h3]) hc e3 e2 BB (fun z o ez _ n => kp z o ez n) ⟨lg, as ++ [t], ⟨dc, kp _ _ hi lc⟩, ?_, kp _ _ BI.tup (ne_of BI.tup BI.lst (by intro q; cases q)), by simp [BI.len], fun j q ej => ?_⟩
    · rw [upd_same, List.map_append]; rfl
    · by_cases hj : j < r.steps.length
      · rw [List.getElem?_append_left hj] at ej
        obtain ⟨a, ea, ha⟩ := BI.at_ j q ej
        exact ⟨a, by rw [List.getElem?_append_left (by rw [BI.len]; exact hj)]; exact ea, kp _ _ ha (ne_of ha BI.lst (by intro q; cases q))⟩
      · rw [List.getElem?_append_right (by omega)] at ej
        have e0 : j - r.steps.length = 0 := by
          cases q : j - r.steps.length with
          | zero => rfl
          | succ n => rw [q] at ej; simp at ej
        rw [e0] at ej
        cases ej
        refine ⟨t, by rw [List.getElem?_append_right (by rw [BI.len]; omega), BI.len, e0]; rfl, ?_⟩
        rw [upd_ne nlt.symm, upd_same]; rfl
end BF
end


section
set_option Elab.async false
set_option linter.all false
set_option maxRecDepth 100000
set_option maxHeartbeats 1000000
namespace BF
def absI (q : Int × Int × Int × Int) : Sc12.Ins := ⟨q.1.toNat, q.2.1.toNat, q.2.2.1.toNat, q.2.2.2⟩
def absE (r : RB) : Sc12.End := if r.fin = 1 then .jump (r.goals.getD 0 0).toNat else if r.fin = 2 then .branch r.var.toNat (r.goals.getD 0 0).toNat (r.goals.getD 1 0).toNat else if r.fin = 3 then .ret r.var.toNat else .none_
def absB (r : RB) : Sc12.Block := ⟨r.steps.map absI, absE r⟩
def abs (rs : List RB) : Sc12.State := rs.map absB
def okS (q : Int × Int × Int × Int) : Prop := isS q.1 q.2.1 q.2.2.1 q.2.2.2 = true ∧ -(2 ^ 63) ≤ q.2.2.2 ∧ q.2.2.2 < 2 ^ 63
def okE (r : RB) : Prop := (r.fin = 0 ∧ r.goals = []) ∨ (r.fin = 1 ∧ ∃ t, r.goals = [t] ∧ isT t = true) ∨ (r.fin = 2 ∧ isV r.var = true ∧ ∃ y n, r.goals = [y, n] ∧ isT y = true ∧ isT n = true) ∨ (r.fin = 3 ∧ isV r.var = true ∧ r.goals = [])
structure okB (r : RB) : Prop where
  steps : ∀ q ∈ r.steps, okS q
  len : r.steps.length ≤ 16
  fin : okE r
structure Wf (rs : List RB) : Prop where
  len : rs.length ≤ 64
  at_ : ∀ r ∈ rs, okB r
theorem Wf.sz {rs : List RB} (h : Wf rs) : Sz rs := ⟨h.len, fun r m => (h.at_ r m).len⟩
theorem abs_len (rs : List RB) : (abs rs).length = rs.length := List.length_map ..
theorem abs_get {rs : List RB} {i : Nat} {r : RB} (h : rs[i]? = some r) : (abs rs)[i]? = some (absB r) := by
  unfold abs; rw [List.getElem?_map, h]; rfl
theorem opsOf_abs {rs : List RB} {i : Nat} {r : RB} (h : rs[i]? = some r) : Sc12.opsOf (abs rs) i = r.steps.map absI := by
  unfold Sc12.opsOf; rw [abs_get h]; rfl
theorem endOf_abs {rs : List RB} {i : Nat} {r : RB} (h : rs[i]? = some r) : Sc12.endOf (abs rs) i = absE r := by
  unfold Sc12.endOf; rw [abs_get h]; rfl
theorem isBlock_abs (rs : List RB) (b : Int) : Sc12.isBlock (abs rs) b = hasB rs b := by
  unfold Sc12.isBlock hasB
  rw [abs_len]
  simp
theorem isVar_isV (v : Int) : Sc12.isVar v = isV v := by
  unfold Sc12.isVar isV
  simp
theorem isTo_isT (v : Int) : Sc12.isTo v = isT v := by
  unfold Sc12.isTo isT
  simp
theorem absE_none {r : RB} (h : okE r) : (match absE r with | .none_ => true | _ => false) = decide (r.fin = 0) := by
  unfold absE
  rcases h with ⟨h, _⟩ | ⟨h, _⟩ | ⟨h, _⟩ | ⟨h, _⟩ <;> rw [h] <;> rfl
theorem isOpen_abs {rs : List RB} (wf : Wf rs) (b : Int) : Sc12.isOpen (abs rs) b = openB rs b := by
  unfold Sc12.isOpen openB
  rw [isBlock_abs]
  cases h : hasB rs b with
  | false => rfl
  | true =>
    obtain ⟨i, r, e1, e2, e3, e4⟩ := hasB_get h
    rw [Bool.true_and, Bool.true_and, e2, endOf_abs e3, e4]
    exact absE_none (wf.at_ r (List.mem_of_getElem? e3)).fin
theorem opFine_isS (op d x y : Int) : (Sc12.opFine op x y && Sc12.isVar d) = isS op d x y := by
  unfold Sc12.opFine isS
  rw [isVar_isV, isVar_isV, isVar_isV]
  unfold rdX rdY
  by_cases h1 : 0 ≤ op <;> by_cases h2 : op ≤ 5 <;> simp [h1, h2]
  by_cases h5 : op = 5
  · subst h5
    cases isV d <;> simp
  · by_cases h4 : op = 4
    · subst h4
      cases isV d <;> cases isV x <;> simp
    · have a : ¬ 4 ≤ op := by omega
      have b : op ≤ 4 := by omega
      have c : op ≤ 3 := by omega
      simp [h5, a, b, c]
      cases isV d <;> cases isV x <;> cases isV y <;> simp
theorem modify_abs {rs : List RB} {i : Nat} {g : RB → RB} {f : Sc12.Block → Sc12.Block} (h : ∀ r, rs[i]? = some r → absB (g r) = f (absB r)) : abs (rs.modify i g) = (abs rs).modify i f := by
  unfold abs
  induction rs generalizing i with
  | nil => cases i <;> rfl
  | cons a l ih =>
    cases i with
    | zero =>
      show absB (g a) :: l.map absB = f (absB a) :: l.map absB
      rw [h a rfl]
    | succ i =>
      show absB a :: (l.modify i g).map absB = absB a :: (l.map absB).modify i f
      rw [ih fun r hr => h r hr]
theorem wf_modify {rs : List RB} (wf : Wf rs) {i : Nat} {g : RB → RB} (h : ∀ r, rs[i]? = some r → okB r → okB (g r)) : Wf (rs.modify i g) := by
  refine ⟨by rw [List.length_modify]; exact wf.len, fun r m => ?_⟩
  obtain ⟨j, hj⟩ := List.getElem?_of_mem m
  rw [List.getElem?_modify] at hj
  cases e : rs[j]? with
  | none => rw [e] at hj; simp at hj
  | some r0 =>
    rw [e] at hj
    have o := wf.at_ r0 (List.mem_of_getElem? e)
    by_cases hi : i = j
    · subst hi
      simp at hj
      rw [← hj]
      exact h r0 e o
    · simp [hi] at hj
      rw [← hj]
      exact o
structure Goes (rs : List RB) (r : List RB × Int) (c : Sc12.Call) : Prop where
  wf : Wf r.1
  eq : Sc12.spec (abs rs) c = (abs r.1, ⟨r.2, []⟩)
theorem go_init (rs : List RB) : Goes rs (mInit rs []) .init := ⟨⟨Nat.zero_le _, fun r m => absurd m (by simp [mInit])⟩, rfl⟩
theorem go_block {rs : List RB} (wf : Wf rs) : Goes rs (mBlock rs []) .block := by
  unfold mBlock
  by_cases h : rs.length = 64
  · rw [if_pos h]
    refine ⟨wf, ?_⟩
    show (if (abs rs).length < Sc12.BLOCKS then _ else _) = _
    rw [if_neg (by rw [abs_len, h]; decide)]
    rfl
  · rw [if_neg h]
    refine ⟨⟨by have := wf.len; simp; omega, fun r m => ?_⟩, ?_⟩
    · rcases List.mem_append.mp m with m | m
      · exact wf.at_ r m
      · rw [List.mem_singleton.mp m]
        exact ⟨fun q m => absurd m (by simp), Nat.zero_le _, .inl ⟨rfl, rfl⟩⟩
    · show (if (abs rs).length < Sc12.BLOCKS then _ else _) = _
      rw [if_pos (by rw [abs_len]; have := wf.len; unfold Sc12.BLOCKS; omega), abs_len]
      unfold abs
      rw [List.map_append]
      rfl
theorem go_on {rs : List RB} (wf : Wf rs) {b : Int} {ok : Bool} {g : RB → RB} {c : Sc12.Call} {f : Sc12.Block → Sc12.Block} (hok : ∀ r, rs[b.toNat]? = some r → openB rs b = true → ok = true → okB r → okB (g r)) (hf : ∀ r, rs[b.toNat]? = some r → openB rs b = true → ok = true → absB (g r) = f (absB r))
    (hs : Sc12.spec (abs rs) c = if (openB rs b && ok) = true then ((abs rs).modify b.toNat f, ⟨0, []⟩) else (abs rs, ⟨-2, []⟩)) : Goes rs (mOn rs b ok g) c := by
  unfold mOn
  by_cases h : (openB rs b && ok) = true
  · have h' := h
    rw [Bool.and_eq_true] at h'
    rw [if_pos h]
    rw [if_pos h] at hs
    exact ⟨wf_modify wf fun r e o => hok r e h'.1 h'.2 o, by rw [hs, modify_abs fun r e => hf r e h'.1 h'.2]⟩
  · rw [if_neg h]
    rw [if_neg h] at hs
    exact ⟨wf, hs⟩
theorem go_jump {rs : List RB} (wf : Wf rs) (b t : Int) : Goes rs (mJump rs [b, t]) (.jump b t) := by
  refine go_on wf (f := fun x => { x with end_ := .jump t.toNat }) (fun r e h1 h2 o => ⟨o.steps, o.len, .inr (.inl ⟨rfl, t, rfl, h2⟩)⟩) (fun r e _ _ => rfl) ?_
  show (if Sc12.isOpen (abs rs) b = true ∧ Sc12.isTo t = true then _ else _) = (if (openB rs b && isT t) = true then _ else _)
  rw [isOpen_abs wf, isTo_isT]
  simp only [Bool.and_eq_true]
  rfl
theorem go_branch {rs : List RB} (wf : Wf rs) (b v y n : Int) : Goes rs (mBranch rs [b, v, y, n]) (.branch b v y n) := by
  refine go_on wf (f := fun x => { x with end_ := .branch v.toNat y.toNat n.toNat }) (fun r e h1 h2 o => ?_) (fun r e _ _ => rfl) ?_
  · have h2 : (isV v && isT y && isT n) = true := h2
    simp only [Bool.and_eq_true] at h2
    exact ⟨o.steps, o.len, .inr (.inr (.inl ⟨rfl, h2.1.1, y, n, rfl, h2.1.2, h2.2⟩))⟩
  show (if Sc12.isOpen (abs rs) b = true ∧ Sc12.isVar v = true ∧ Sc12.isTo y = true ∧ Sc12.isTo n = true then _ else _) = (if (openB rs b && (isV v && isT y && isT n)) = true then _ else _)
  rw [isOpen_abs wf, isTo_isT, isTo_isT, isVar_isV]
  simp only [Bool.and_eq_true, and_assoc]
  rfl
theorem go_ret {rs : List RB} (wf : Wf rs) (b v : Int) : Goes rs (mRet rs [b, v]) (.ret b v) := by
  refine go_on wf (f := fun x => { x with end_ := .ret v.toNat }) (fun r e h1 h2 o => ?_) (fun r e _ _ => rfl) ?_
  · obtain ⟨i, r', e1, e2, e3, e4⟩ := openB_get h1
    rw [e2] at e
    have e : rs[i]? = some r := e
    rw [e3] at e
    cases e
    refine ⟨o.steps, o.len, .inr (.inr (.inr ⟨rfl, h2, ?_⟩))⟩
    rcases o.fin with h | h | h | h
    · exact h.2
    · rw [e4] at h; exact absurd h.1 (by decide)
    · rw [e4] at h; exact absurd h.1 (by decide)
    · rw [e4] at h; exact absurd h.1 (by decide)
  show (if Sc12.isOpen (abs rs) b = true ∧ Sc12.isVar v = true then _ else _) = (if (openB rs b && isV v) = true then _ else _)
  rw [isOpen_abs wf, isVar_isV]
  simp only [Bool.and_eq_true]
  rfl
theorem go_op {rs : List RB} (wf : Wf rs) (b op d x y : Int) (hy : -(2 ^ 63) ≤ y ∧ y < 2 ^ 63) : Goes rs (mOp rs [b, op, d, x, y]) (.op b op d x y) := by
  have est : ∀ r, rs[b.toNat]? = some r → stepsB rs b = r.steps.length := fun r e => by unfold stepsB; rw [e]; rfl
  refine go_on wf (f := fun z => { z with ops := z.ops ++ [⟨op.toNat, d.toNat, x.toNat, y⟩] }) (fun r e h1 h2 o => ?_) (fun r e _ _ => ?_) ?_
  · have h2 : (isS op d x y && !decide (stepsB rs b = 16)) = true := h2
    rw [est r e] at h2
    simp only [Bool.and_eq_true, Bool.not_eq_true', decide_eq_false_iff_not] at h2
    refine ⟨fun q m => ?_, ?_, ?_⟩
    · rcases List.mem_append.mp m with m | m
      · exact o.steps q m
      · rw [List.mem_singleton.mp m]
        exact ⟨h2.1, hy⟩
    · have := o.len
      show (r.steps ++ _).length ≤ 16
      simp
      omega
    · exact o.fin
  · show (⟨(r.steps ++ [(op, d, x, y)]).map absI, absE r⟩ : Sc12.Block) = ⟨r.steps.map absI ++ _, absE r⟩
    rw [List.map_append]
    rfl
  show (if Sc12.isOpen (abs rs) b = true ∧ Sc12.opFine op x y = true ∧ Sc12.isVar d = true ∧ (Sc12.opsOf (abs rs) b.toNat).length < Sc12.STEPS then _ else _) = (if (openB rs b && (isS op d x y && !decide (stepsB rs b = 16))) = true then _ else _)
  rw [isOpen_abs wf]
  cases h : openB rs b with
  | false => simp; rfl
  | true =>
    obtain ⟨i, r, e1, e2, e3, e4⟩ := openB_get h
    have q : (Sc12.opsOf (abs rs) b.toNat).length = stepsB rs b := by
      rw [e2, opsOf_abs e3, List.length_map, est r (by rw [e2]; exact e3)]
    have q16 : stepsB rs b ≤ 16 := by rw [est r (by rw [e2]; exact e3)]; exact (wf.at_ r (List.mem_of_getElem? e3)).len
    have a : (stepsB rs b < Sc12.STEPS) ↔ ¬ stepsB rs b = 16 := by unfold Sc12.STEPS; omega
    rw [q, ← opFine_isS]
    simp only [a, Bool.and_eq_true, Bool.not_eq_true', decide_eq_false_iff_not, true_and, and_assoc]
    rfl
end BF
end


section
set_option Elab.async false
set_option linter.all false
set_option maxRecDepth 100000
set_option maxHeartbeats 4000000
namespace BF
open PySem PySem.Spec PyProof.Rows L2
variable {P : Program} {w : World} {K : PySem.W.Frag} {mg : Str → Option Value} {base : Heap} {A : Ad}
def Longs (l : List Int) : Prop := l.length = 32 ∧ ∀ z ∈ l, -(2 ^ 63) ≤ z ∧ z < 2 ^ 63
theorem wrap_eq (z : Int) : (z + 9223372036854775808) % 18446744073709551616 - 9223372036854775808 = Sc12.wrap z := by
  unfold Sc12.wrap
  have e1 : ((2 ^ 64 : Nat) : Int) = 18446744073709551616 := rfl
  have e2 : ((2 ^ 63 : Nat) : Int) = 9223372036854775808 := rfl
  simp only [e1, e2]
  split <;> omega
theorem wrap_long (z : Int) : -(2 ^ 63) ≤ Sc12.wrap z ∧ Sc12.wrap z < 2 ^ 63 := by
  rw [← wrap_eq]
  have e2 : (2 ^ 63 : Int) = 9223372036854775808 := rfl
  rw [e2]
  omega
def sv (i : Sc12.Ins) (l : List Int) : Int := if i.op = 0 then Sc12.wrap (Sc12.value l i.x + Sc12.value l i.y) else if i.op = 1 then Sc12.wrap (Sc12.value l i.x - Sc12.value l i.y) else if i.op = 2 then Sc12.wrap (Sc12.value l i.x * Sc12.value l i.y) else if i.op = 3 then (if Sc12.value l i.x < Sc12.value l i.y then 1 else 0) else if i.op = 4 then Sc12.value l i.x else i.y
theorem does_eq (i : Sc12.Ins) (l : List Int) : Sc12.does i l = l.set i.d (sv i l) := rfl
theorem isV_iff {v : Int} : isV v = true ↔ 0 ≤ v ∧ v < 32 := by unfold isV; exact decide_eq_true_iff
theorem isT_iff {v : Int} : isT v = true ↔ 0 ≤ v ∧ v < 64 := by unfold isT; exact decide_eq_true_iff
theorem value_long {l : List Int} (h : Longs l) {x : Int} (hx : 0 ≤ x ∧ x < 32) : l[x.toNat]? = some (Sc12.value l x) ∧ -(2 ^ 63) ≤ Sc12.value l x ∧ Sc12.value l x < 2 ^ 63 := by
  have hl : x.toNat < l.length := by rw [h.1]; omega
  have e : Sc12.value l x = l[x.toNat] := by unfold Sc12.value; rw [List.getD_eq_getElem?_getD, List.getElem?_eq_getElem hl]; rfl
  rw [e]
  exact ⟨List.getElem?_eq_getElem hl, h.2 _ (List.getElem_mem hl)⟩
theorem at_val {l : List Int} (h : Longs l) {x : Int} (hx : 0 ≤ x ∧ x < 32) : atI (l.map V.int) x = some (.int (Sc12.value l x)) :=
  at_of (j := x.toNat) (by omega) (by rw [List.getElem?_map, (value_long h hx).1]; rfl)
structure OkS (op d x y : Int) : Prop where
  po : 0 ≤ op ∧ op ≤ 5
  pd : 0 ≤ d ∧ d < 32
  px : op ≤ 4 → 0 ≤ x ∧ x < 32
  py : op ≤ 3 → 0 ≤ y ∧ y < 32
  pr : -(2 ^ 63) ≤ y ∧ y < 2 ^ 63
theorem okS_iff {q : Int × Int × Int × Int} (h : okS q) : OkS q.1 q.2.1 q.2.2.1 q.2.2.2 := by
  obtain ⟨h, r⟩ := h
  unfold isS rdX rdY at h
  simp only [Bool.and_eq_true, Bool.or_eq_true, decide_eq_true_iff, isV_iff, Bool.not_eq_true', decide_eq_false_iff_not] at h
  obtain ⟨⟨⟨h1, h2⟩, h3⟩, h4⟩ := h
  exact ⟨h1, h2, fun e => by omega, fun e => by omega, r⟩
theorem sv_long {l : List Int} (hl : Longs l) {q : Int × Int × Int × Int} (h : okS q) : -(2 ^ 63) ≤ sv (absI q) l ∧ sv (absI q) l < 2 ^ 63 := by
  have o := okS_iff h
  unfold sv
  split
  · exact wrap_long _
  split
  · exact wrap_long _
  split
  · exact wrap_long _
  split
  · split <;> decide
  split
  · rename_i e
    have e : q.1.toNat = 4 := e
    have := o.px (by have := o.po; omega)
    have ex : ((absI q).x : Int) = q.2.2.1 := by show ((q.2.2.1.toNat : Nat) : Int) = _; omega
    rw [ex]
    exact (value_long hl this).2
  · exact o.pr
theorem does_long {l : List Int} (hl : Longs l) {q : Int × Int × Int × Int} (h : okS q) : Longs (Sc12.does (absI q) l) := by
  rw [does_eq]
  refine ⟨by rw [List.length_set]; exact hl.1, fun z m => ?_⟩
  rcases List.mem_or_eq_of_mem_set m with m | rfl
  · exact hl.2 z m
  · exact sv_long hl h
theorem d_as_long (T : Txt K mg A) : Def P w K mg base 1 "as_long" ["number"] (sp1 fun z => .int (Sc12.wrap z)) := by
  refine T.r_as_long.def sc_as_long (fun vs H Q E h => ?_) (fun f cdv A' outer s H vs Q E hr h => ?_)
  · obtain ⟨x, rfl, _⟩ := h
    rfl
  · obtain ⟨x, rfl, k⟩ := h
    refine ⟨_, (pss_one (ps_ret (pe_op op_sub (pe_op op_mod (pe_op op_add (pv 0) (gl T.c_LONGS_FROM_0)) (gl T.c_ALL_LONGS)) (gl T.c_LONGS_FROM_0)))), ?_⟩
    refine ⟨_, rfl, _, _, rfl, rfl, _, _, rfl, rfl, (by show (0 : Int) < 18446744073709551616; decide), _, _, rfl, rfl, ?_⟩
    exact Qi k (wrap_eq x).symm
def spSV (K : PySem.W.Frag) : Sp := fun vs H Q _ => ∃ (v : Addr) (l : List Int) (q : Int × Int × Int × Int), vs = [.ref v, .int q.1, .int q.2.2.1, .int q.2.2.2] ∧ SqL K H v (l.map V.int) ∧ Longs l ∧ okS q ∧ Q (.int (sv (absI q) l)) H
theorem d_step_value (T : Txt K mg A) : Def P w K mg base 2 "step_value" ["values", "op", "x", "y"] (spSV K) := by
  refine T.r_step_value.def sc_step_value (fun vs H Q E h => ?_) (fun f cdv A' outer s H vs Q E hr h => ?_)
  · obtain ⟨v, l, q, rfl, _⟩ := h
    rfl
  · obtain ⟨v, l, ⟨op, d, x, y⟩, rfl, hv, hl, ok, k⟩ := h
    have o := okS_iff ok
    have oo := o.po
    have ox := o.px
    have oy := o.py
    dsimp only at oo ox oy
    have k : Q (.int (sv ⟨op.toNat, d.toNat, x.toNat, y⟩ l)) H := k
    unfold sv at k
    dsimp only at k
    refine ⟨_, (pss_cons (ps_if (pt_cmpR op_eq (pv 1) (gl T.c_NUMBER) (nomark _)) (pss_one (ps_ret (pv 3))) pss_nil) (pss_cons (ps_if (pt_cmpR op_eq (pv 1) (gl T.c_COPY) (nomark _)) (pss_one (ps_ret (pe_ix ix_list (pv 0) (pv 2) (fun _ _ => rfl)))) pss_nil) (pss_cons (ps_if (pt_cmpR op_eq (pv 1) (gl T.c_LESS) (nomark _)) (pss_one (ps_ret (pe_ifExp (pt_cmpR op_lt (pe_ix ix_list (pv 0) (pv 2) (fun _ _ => rfl)) (pe_ix ix_list (pv 0) (pv 3) (fun _ _ => rfl)) (nomark _)) pe_int pe_int))) pss_nil) (pss_cons (ps_if (pt_cmpR op_eq (pv 1) (gl T.c_ADD) (nomark _)) (pss_one (ps_ret (pe_def (d_as_long T) hr (pa_cons (pe_op op_add (pe_ix ix_list (pv 0) (pv 2) (fun _ _ => rfl)) (pe_ix ix_list (pv 0) (pv 3) (fun _ _ => rfl))) pa_nil)))) pss_nil) (pss_cons (ps_if (pt_cmpR op_eq (pv 1) (gl T.c_SUBTRACT) (nomark _)) (pss_one (ps_ret (pe_def (d_as_long T) hr (pa_cons (pe_op op_sub (pe_ix ix_list (pv 0) (pv 2) (fun _ _ => rfl)) (pe_ix ix_list (pv 0) (pv 3) (fun _ _ => rfl))) pa_nil)))) pss_nil) (pss_one (ps_ret (pe_def (d_as_long T) hr (pa_cons (pe_op op_mul (pe_ix ix_list (pv 0) (pv 2) (fun _ _ => rfl)) (pe_ix ix_list (pv 0) (pv 3) (fun _ _ => rfl))) pa_nil))))))))), ?_⟩
    refine ⟨_, rfl, rfl, _, rfl, ite2 (fun h => ?_) (fun h5 => ?_)⟩
    · have e : op = 5 := V.int.inj (of_decide_eq_true h)
      subst e
      exact ⟨_, rfl, k⟩
    have h5 : op ≠ 5 := fun e => h5 (decide_eq_true (by rw [e]))
    have vx := ox (by omega)
    have ex : ((x.toNat : Nat) : Int) = x := by omega
    rw [ex] at k
    refine ⟨_, rfl, rfl, _, rfl, ite2 (fun h => ?_) (fun h4 => ?_)⟩
    · have e : op = 4 := V.int.inj (of_decide_eq_true h)
      subst e
      exact ⟨_, rfl, _, rfl, v, _, _, _, rfl, rfl, hv, at_val hl vx, k⟩
    have h4 : op ≠ 4 := fun e => h4 (decide_eq_true (by rw [e]))
    have vy := oy (by omega)
    refine ⟨_, rfl, rfl, _, rfl, ite2 (fun h => ?_) (fun h3 => ?_)⟩
    · have e : op = 3 := V.int.inj (of_decide_eq_true h)
      subst e
      refine ⟨_, rfl, _, rfl, v, _, _, _, rfl, rfl, hv, at_val hl vx, _, rfl, _, rfl, v, _, _, _, rfl, rfl, hv, at_val hl vy, _, _, rfl, rfl, _, rfl, ?_⟩
      have k : Q (.int (if Sc12.value l x < Sc12.value l y then 1 else 0)) H := k
      refine ite2 (fun h => ?_) (fun h => ?_)
      · rw [if_pos (of_decide_eq_true h)] at k; exact k
      · rw [if_neg (fun z => h (decide_eq_true z))] at k; exact k
    have h3 : op ≠ 3 := fun e => h3 (decide_eq_true (by rw [e]))
    refine ⟨_, rfl, rfl, _, rfl, ite2 (fun h => ?_) (fun h0 => ?_)⟩
    · have e : op = 0 := V.int.inj (of_decide_eq_true h)
      subst e
      exact ⟨_, rfl, _, rfl, v, _, _, _, rfl, rfl, hv, at_val hl vx, _, rfl, _, rfl, v, _, _, _, rfl, rfl, hv, at_val hl vy, _, _, rfl, rfl, _, rfl, k⟩
    have h0 : op ≠ 0 := fun e => h0 (decide_eq_true (by rw [e]))
    refine ⟨_, rfl, rfl, _, rfl, ite2 (fun h => ?_) (fun h1 => ?_)⟩
    · have e : op = 1 := V.int.inj (of_decide_eq_true h)
      subst e
      exact ⟨_, rfl, _, rfl, v, _, _, _, rfl, rfl, hv, at_val hl vx, _, rfl, _, rfl, v, _, _, _, rfl, rfl, hv, at_val hl vy, _, _, rfl, rfl, _, rfl, k⟩
    have h1 : op ≠ 1 := fun e => h1 (decide_eq_true (by rw [e]))
    have e : op = 2 := by omega
    subst e
    have r := (value_long hl vx).2
    exact ⟨_, rfl, _, rfl, v, _, _, _, rfl, rfl, hv, at_val hl vx, _, rfl, _, rfl, v, _, _, _, rfl, rfl, hv, at_val hl vy, _, _, rfl, rfl, .inl ⟨(by show -(2 ^ 64) < Sc12.value l x; omega), (by show Sc12.value l x < 2 ^ 64; omega)⟩, _, rfl, k⟩
theorem upd_id {H : Hp} {a : Addr} {o : HO} (h : H a = some o) : upd H a o = H := by
  funext b
  unfold upd
  split
  · rename_i e; rw [e, h]
  · rfl
def doAll (st : List (Int × Int × Int × Int)) (l : List Int) : List Int := st.foldl (fun l q => Sc12.does (absI q) l) l
theorem doAll_long {st : List (Int × Int × Int × Int)} : ∀ {l : List Int}, Longs l → (∀ q ∈ st, okS q) → Longs (doAll st l) := by
  induction st with
  | nil => exact fun h _ => h
  | cons q st ih => exact fun h ok => ih (does_long h (ok q (List.mem_cons_self ..))) fun q' m => ok q' (List.mem_cons_of_mem _ m)
theorem take_snoc {α : Type} : ∀ {l : List α} {i : Nat} {x : α}, l[i]? = some x → l.take (i + 1) = l.take i ++ [x]
  | [], i, x, h => by simp at h
  | a :: l, 0, x, h => by
    have e : a = x := Option.some.inj h
    subst e
    rfl
  | a :: l, i + 1, x, h => by
    have ih := take_snoc (l := l) (i := i) (x := x) h
    show a :: l.take (i + 1) = a :: l.take i ++ [x]
    rw [ih]
    rfl
theorem doAll_snoc (st : List (Int × Int × Int × Int)) (q : Int × Int × Int × Int) (l : List Int) : doAll (st ++ [q]) l = Sc12.does (absI q) (doAll st l) := by
  unfold doAll; rw [List.foldl_append]; rfl
def spTake : Sp := fun vs H Q _ => ∃ (v ls : Addr) (as : List Addr) (l : List Int) (st : List (Int × Int × Int × Int)), vs = [.ref v, .ref ls] ∧ H v = some (.lst (l.map V.int)) ∧ Longs l ∧ v ≠ ls ∧ H ls = some (.lst (as.map V.ref)) ∧ as.length = st.length ∧
  (∀ (i : Nat) q, st[i]? = some q → ∃ c, as[i]? = some c ∧ H c = some (.tup (tupV q))) ∧ (∀ q ∈ st, okS q) ∧ Q .non (upd H v (.lst ((doAll st l).map V.int)))
theorem d_take_steps (T : Txt K mg A) : Def P w K mg base 3 "take_steps" ["values", "steps"] spTake := by
  refine T.r_take_steps.def sc_take_steps (fun vs H Q E h => ?_) (fun f cdv A' outer s H vs Q E hr h => ?_)
  · obtain ⟨v, ls, as, l, st, rfl, _⟩ := h
    rfl
  · obtain ⟨v, ls, as, l, st, rfl, hv, hl, ne, hls, hlen, hat, ok, k⟩ := h
    refine ⟨_, (pss_one (ps_for PassesOwn.never rfl (pi_list (pv 1)) (pg_tup rfl (pgs_cons (pg_name (i := 2) sc_take_steps.nd rfl (Or.inl rfl)) (pgs_cons (pg_name (i := 3) sc_take_steps.nd rfl (Or.inl rfl)) (pgs_cons (pg_name (i := 4) sc_take_steps.nd rfl (Or.inl rfl)) (pgs_cons (pg_name (i := 5) sc_take_steps.nd rfl (Or.inl rfl)) pgs_nil))))) (pss_one (ps_asg (pe_def (d_step_value T) hr (pa_cons (pv 0) (pa_cons (pv 2) (pa_cons (pv 4) (pa_cons (pv 5) pa_nil))))) (pg_sub (pv 0) (pv 3) set_list))))), ?_⟩
    have nls : ∀ {o}, (upd H v o) ls = some (.lst (as.map V.ref)) := fun {o} => by rw [upd_ne ne.symm]; exact hls
    refine ⟨_, rfl, ls, rfl, ⟨_, SqL.of hls⟩, for_list (K := K) (a := ls) (xs := as.map V.ref) (fun i σ H' => ∃ o1 o2 o3 o4 : Option V, σ = [some (.ref v), some (.ref ls), o1, o2, o3, o4] ∧ H' = upd H v (.lst ((doAll (st.take i) l).map V.int)))
      ⟨none, none, none, none, rfl, (upd_id hv).symm⟩ (fun i σ H' _ ⟨_, _, _, _, _, e⟩ => by rw [e]; exact SqL.of nls) ?_ ?_⟩
    · rintro i y σ H' hi ⟨o1, o2, o3, o4, rfl, rfl⟩
      obtain ⟨c, hc, rfl⟩ : ∃ c, as[i]? = some c ∧ y = V.ref c := by
        rw [List.getElem?_map] at hi
        cases e : as[i]? with
        | none => rw [e] at hi; cases hi
        | some c => rw [e] at hi; exact ⟨c, rfl, (Option.some.inj hi).symm⟩
      have hlt : i < st.length := by rw [← hlen]; exact (List.getElem?_eq_some_iff.mp hc).1
      obtain ⟨q, hq⟩ : ∃ q, st[i]? = some q := ⟨_, List.getElem?_eq_getElem hlt⟩
      obtain ⟨c', ec, hct⟩ := hat i q hq
      rw [hc] at ec; cases ec
      have okq := ok q (List.mem_of_getElem? hq)
      have o := okS_iff okq
      have LL : Longs (doAll (st.take i) l) := doAll_long hl fun q' m => ok q' (List.mem_of_mem_take m)
      have ncv : c ≠ v := ne_of hct hv (by intro z; cases z)
      refine ⟨c, _, rfl, SqT.of (by rw [upd_ne ncv]; exact hct), rfl, _, _, rfl, _, _, rfl, _, _, rfl, _, _, rfl, rfl, ?_⟩
      refine ⟨_, rfl, _, rfl, _, rfl, _, rfl, v, doAll (st.take i) l, q, rfl, SqL.of upd_same, LL, okq, ?_⟩
      refine ⟨_, rfl, _, rfl, v, _, _, q.2.1.toNat, rfl, rfl, upd_same, ?_, ?_⟩
      · have := o.pd
        unfold ixN
        rw [if_pos this.1, if_pos (by rw [List.length_map, LL.1]; exact this.2)]
      · refine ⟨_, _, _, _, rfl, ?_⟩
        rw [upd_upd, take_snoc hq, doAll_snoc, does_eq, List.map_set]
        rfl
    · rintro σ H' ⟨o1, o2, o3, o4, rfl, rfl⟩
      rw [List.length_map, hlen, List.take_length]
      exact k
end BF
end


section
set_option Elab.async false
set_option linter.all false
set_option maxRecDepth 100000
set_option maxHeartbeats 4000000
namespace BF
open PySem PySem.Spec PyProof.Rows L2
variable {P : Program} {w : World} {K : PySem.W.Frag} {mg : Str → Option Value} {base : Heap} {A : Ad}
def goalB (r : RB) (l : List Int) : Int := if r.fin = 2 ∧ Sc12.value l r.var = 0 then r.goals.getD 1 0 else r.goals.getD 0 0
def spGoal (A : Ad) (K : PySem.W.Frag) : Sp := fun vs H Q _ => ∃ (c : Addr × Addr) (v : Addr) (r : RB) (l : List Int), vs = [.ref c.1, .ref v] ∧ BlockAt A H c r ∧ okB r ∧ (r.fin = 1 ∨ r.fin = 2) ∧ SqL K H v (l.map V.int) ∧ Longs l ∧ Q (.int (goalB r l)) H
theorem d_goal_of (T : Txt K mg A) : Def P w K mg base 1 "goal_of" ["block", "values"] (spGoal A K) := by
  refine T.r_goal_of.def sc_goal_of (fun vs H Q E h => ?_) (fun f cdv A' outer s H vs Q E hr h => ?_)
  · obtain ⟨c, v, r, l, rfl, _⟩ := h
    rfl
  · obtain ⟨c, v, r, l, rfl, ⟨lg, as, BI⟩, ok, hf, hv, hl, k⟩ := h
    obtain ⟨dc, hi⟩ := BI.ins
    refine ⟨_, (pss_cons (ps_if (PW.pt (pw_and (pt_cmpR op_eq (pe_fld (pv 0) rfl) (gl T.c_BRANCH_END) (nomark _)) (pw_and1 (pt_cmpR op_eq (pe_ix ix_list (pv 1) (pe_fld (pv 0) rfl) (fun _ _ => rfl)) pe_int (nomark _))))) (pss_one (ps_ret (pe_ix ix_tup (pe_fld (pv 0) rfl) pe_int (fun _ _ => rfl)))) pss_nil) (pss_one (ps_ret (pe_ix ix_tup (pe_fld (pv 0) rfl) pe_int (fun _ _ => rfl))))), ?_⟩
    refine ⟨_, rfl, c.1, _, dc, _, _, rfl, hi, T.cl_Block, T.na_Block_end, lk_end, rfl, _, rfl, ?_⟩
    have last : ∀ t, r.goals[0]? = some t → goalB r l = t → ∃ v', [some (V.ref c.1), some (V.ref v)][0]? = some (some v') ∧ (∃ a C dx fs v'', v' = .ref a ∧ H a = some (.ins C dx fs) ∧ Cls K C ∧ NoAttr K C "goals" ∧ fs.lookup ("goals" : Str) = some v'' ∧ rIxT K v'' (.int 0) H Q) := fun t ht e => by
      refine ⟨_, rfl, c.1, _, dc, _, _, rfl, hi, T.cl_Block, T.na_Block_goals, lk_goals, lg, _, _, _, rfl, rfl, SqT.of BI.tup, at_of (j := 0) rfl (by rw [List.getElem?_map, ht]; rfl), ?_⟩
      rw [← e]; exact k
    rcases ok.fin with h | h | h | h
    · rcases hf with e | e <;> rw [h.1] at e <;> cases e
    · obtain ⟨e1, t, e2, e3⟩ := h
      refine ite2 (fun z => ?_) (fun _ => ?_)
      · rw [e1] at z; cases z
      · refine iteF (last t (by rw [e2]; rfl) ?_)
        unfold goalB; rw [if_neg (by rw [e1]; intro z; cases z.1), e2]; rfl
    · obtain ⟨e1, e2, y, n, e3, e4, e5⟩ := h
      refine ite2 (fun _ => ?_) (fun z => absurd (by rw [e1]; rfl) z)
      refine ⟨_, rfl, _, rfl, c.1, _, dc, _, _, rfl, hi, T.cl_Block, T.na_Block_variable, lk_variable, v, _, _, _, rfl, rfl, hv, at_val hl (isV_iff.mp e2), rfl, _, rfl, ?_⟩
      refine ite2 (fun z => ?_) (fun z => ?_)
      · have z : Sc12.value l r.var = 0 := V.int.inj (of_decide_eq_true z)
        refine ⟨_, rfl, c.1, _, dc, _, _, rfl, hi, T.cl_Block, T.na_Block_goals, lk_goals, lg, _, _, _, rfl, rfl, SqT.of BI.tup, at_of (j := 1) rfl (by rw [List.getElem?_map, e3]; rfl), ?_⟩
        refine Qi k ?_
        unfold goalB; rw [if_pos ⟨e1, z⟩, e3]; rfl
      · refine last y (by rw [e3]; rfl) ?_
        unfold goalB; rw [if_neg (fun q => z (decide_eq_true (by rw [q.2]))), e3]; rfl
    · rcases hf with e | e <;> rw [h.1] at e <;> cases e
theorem run_steps (s : Sc12.State) (b : Nat) : ∀ (ops : List Sc12.Ins) (k : Nat) (l : List Int), Sc12.run s k b ops l = if ops.length ≤ k then Sc12.run s (k - ops.length) b [] (ops.foldl (fun l i => Sc12.does i l) l) else (-1, none)
  | [], k, l => by simp
  | i :: ops, 0, l => by simp [Sc12.run]
  | i :: ops, k + 1, l => by
    show Sc12.run s k b ops (Sc12.does i l) = _
    rw [run_steps s b ops k]
    simp only [List.length_cons, List.foldl_cons, Nat.add_le_add_iff_right, Nat.add_sub_add_right]
def cont (rs : List RB) (left b : Int) (l : List Int) : Sc12.Result := if hasB rs b = true then Sc12.run (abs rs) left.toNat b.toNat (Sc12.opsOf (abs rs) b.toNat) l else (-3, none)
theorem foldl_absI (st : List (Int × Int × Int × Int)) : ∀ l : List Int, (st.map absI).foldl (fun l i => Sc12.does i l) l = doAll st l := by
  intro l; unfold doAll; rw [List.foldl_map]
theorem cont_block {rs : List RB} {left : Int} {i : Nat} {r : RB} {l : List Int} (hr : rs[i]? = some r) (hl : 0 ≤ left) :
    cont rs left i l = if left - r.steps.length < 0 then (-1, none) else Sc12.run (abs rs) (left - r.steps.length).toNat i [] (doAll r.steps l) := by
  unfold cont
  have hi : i < rs.length := (List.getElem?_eq_some_iff.mp hr).1
  rw [if_pos (by unfold hasB; exact decide_eq_true ⟨by omega, by omega⟩)]
  have e : ((i : Int)).toNat = i := by omega
  rw [e, opsOf_abs hr, run_steps, List.length_map, foldl_absI]
  by_cases h : r.steps.length ≤ left.toNat
  · rw [if_pos h, if_neg (by omega)]
    congr 1
    omega
  · rw [if_neg h, if_pos (by omega)]
theorem run_end {rs : List RB} (wf : Wf rs) {i : Nat} {r : RB} {k : Nat} {l : List Int} (hr : rs[i]? = some r) (hl : Longs l) :
    Sc12.run (abs rs) k i [] l = if r.fin = 0 then (-3, none) else if k = 0 then (-1, none) else if r.fin = 3 then (0, some (Sc12.value l r.var)) else cont rs ((k : Int) - 1) (goalB r l) l := by
  have ok := (wf.at_ r (List.mem_of_getElem? hr)).fin
  have he := endOf_abs hr
  have go : ∀ (t : Int), isT t = true → (if t.toNat < (abs rs).length then Sc12.run (abs rs) (k - 1) t.toNat (Sc12.opsOf (abs rs) t.toNat) l else (-3, none)) = cont rs ((k : Int) - 1) t l := fun t ht => by
    have := isT_iff.mp ht
    unfold cont
    have e : ((k : Int) - 1).toNat = k - 1 := by omega
    rw [e, abs_len]
    by_cases h : t.toNat < rs.length
    · rw [if_pos h, if_pos (by unfold hasB; exact decide_eq_true ⟨by omega, by omega⟩)]
    · rw [if_neg h, if_neg (by unfold hasB; simp; omega)]
  rcases ok with ⟨e1, e2⟩ | ⟨e1, t, e2, e3⟩ | ⟨e1, e2, y, n, e3, e4, e5⟩ | ⟨e1, e2, e3⟩
  · rw [if_pos e1]
    have : absE r = .none_ := by unfold absE; rw [e1]; rfl
    rw [this] at he
    cases k <;> (unfold Sc12.run; rw [he])
  · rw [if_neg (by rw [e1]; decide)]
    have : absE r = .jump t.toNat := by unfold absE; rw [e1, e2]; rfl
    rw [this] at he
    cases k with
    | zero => unfold Sc12.run; rw [he, if_pos rfl]
    | succ k =>
      rw [if_neg (by omega), if_neg (by rw [e1]; decide), show goalB r l = t by unfold goalB; rw [if_neg (by rw [e1]; intro z; cases z.1), e2]; rfl, ← go t e3]
      rw [Sc12.run, he]; rfl
  · rw [if_neg (by rw [e1]; decide)]
    have : absE r = .branch r.var.toNat y.toNat n.toNat := by unfold absE; rw [e1, e3]; rfl
    rw [this] at he
    have ev : ((r.var.toNat : Nat) : Int) = r.var := by have := isV_iff.mp e2; omega
    cases k with
    | zero => unfold Sc12.run; rw [he, if_pos rfl]
    | succ k =>
      rw [if_neg (by omega), if_neg (by rw [e1]; decide)]
      by_cases hz : Sc12.value l r.var = 0
      · rw [show goalB r l = n by unfold goalB; rw [if_pos ⟨e1, hz⟩, e3]; rfl, ← go n e5]
        rw [Sc12.run, he]; dsimp only; rw [ev]
        simp only [hz, ne_eq, not_true, if_false]
        rfl
      · rw [show goalB r l = y by unfold goalB; rw [if_neg (fun z => hz z.2), e3]; rfl, ← go y e4]
        rw [Sc12.run, he]; dsimp only; rw [ev]
        simp only [hz, ne_eq, not_false_iff, if_true]
        rfl
  · rw [if_neg (by rw [e1]; decide)]
    have : absE r = .ret r.var.toNat := by unfold absE; rw [e1]; rfl
    rw [this] at he
    have ev : ((r.var.toNat : Nat) : Int) = r.var := by have := isV_iff.mp e2; omega
    cases k with
    | zero => unfold Sc12.run; rw [he, if_pos rfl]
    | succ k => rw [if_neg (by omega), if_pos e1]; unfold Sc12.run; rw [he]; dsimp only; rw [ev]
theorem runs_cont (rs : List RB) (l : List Int) (steps : Int) : Sc12.runs (abs rs) l steps.toNat = cont rs steps 0 l := by
  unfold Sc12.runs cont
  rw [abs_len]
  by_cases h : rs.length = 0
  · rw [if_pos h, if_neg (by unfold hasB; rw [h]; decide)]
  · rw [if_neg h, if_pos (by unfold hasB; exact decide_eq_true ⟨by omega, by omega⟩)]
    rfl
def toldR (r : Sc12.Result) : List Int := r.1 :: r.2.toList
def spRun (A : Ad) (K : PySem.W.Frag) : Sp := fun vs H Q _ => ∃ (p g : Addr) (rs : List RB) (F : List Addr) (steps : Int) (l0 : List Int), vs = [.ref p, .int steps, .ref g] ∧ BodyAt A H p rs F ∧ Wf rs ∧ SqL K H g (l0.map V.int) ∧ Longs l0 ∧ 0 ≤ steps ∧
  ∀ (H' : Hp) (q : Addr), Same H H' → H q = none → H' q = some (.lst ((toldR (Sc12.runs (abs rs) l0 steps.toNat)).map V.int)) → Q (.ref q) H'
theorem d_run (T : Txt K mg A) : Def P w K mg base 4 "run" ["body", "steps", "given"] (spRun A K) := by
  refine T.r_run.def sc_run (fun vs H Q E h => ?_) (fun f cdv A' outer s H vs Q E hr h => ?_)
  · obtain ⟨p, g, rs, F, steps, l0, rfl, _⟩ := h
    rfl
  · obtain ⟨p, g, rs, F, steps, l0, rfl, BA, wf, hg, hl0, h0, k⟩ := h
    rw [runs_cont] at k
    refine ⟨_, (pss_cons (ps_set (i := 3) sc_run.nd rfl (Or.inl rfl) (pe_callTy call_list_of (by rfl) T.b_list bt_list (pa_cons (pv 2) pa_nil))) (pss_cons (ps_set (i := 4) sc_run.nd rfl (Or.inl rfl) (pv 1)) (pss_cons (ps_set (i := 5) sc_run.nd rfl (Or.inl rfl) pe_int) (pss_cons (ps_while PassesOwn.never (pt_val (pe_dm (pv 0) T.cl_Body (d_Body_has_block T) hr (pa_cons (pv 5) pa_nil))) (pss_cons (ps_set (i := 6) sc_run.nd rfl (Or.inl rfl) (pe_ix ix_list (pe_fld (pv 0) rfl) (pv 5) (fun _ _ => rfl))) (pss_cons (ps_set (i := 4) sc_run.nd rfl (Or.inl rfl) (pe_op op_sub (pv 4) (pe_callB call_len_seq (by rfl) T.b_len bt_len (pa_cons (pe_fld (pv 6) rfl) pa_nil)))) (pss_cons (ps_if (pt_cmpR op_lt (pv 4) pe_int (nomark _)) (pss_one (ps_ret (pe_lst (pa_cons (gl T.c_USED_UP) pa_nil)))) pss_nil) (pss_cons (ps_expr (pe_def (d_take_steps T) hr (pa_cons (pv 3) (pa_cons (pe_fld (pv 6) rfl) pa_nil)))) (pss_cons (ps_if (pt_cmpR op_eq (pe_fld (pv 6) rfl) (gl T.c_NO_END) (nomark _)) (pss_one (ps_ret (pe_lst (pa_cons (gl T.c_NO_WAY_ON) pa_nil)))) pss_nil) (pss_cons (ps_set (i := 4) sc_run.nd rfl (Or.inl rfl) (pe_op op_sub (pv 4) pe_int)) (pss_cons (ps_if (pt_cmpR op_lt (pv 4) pe_int (nomark _)) (pss_one (ps_ret (pe_lst (pa_cons (gl T.c_USED_UP) pa_nil)))) pss_nil) (pss_cons (ps_if (pt_cmpR op_eq (pe_fld (pv 6) rfl) (gl T.c_RET_END) (nomark _)) (pss_one (ps_ret (pe_lst (pa_cons pe_int (pa_cons (pe_ix ix_list (pv 3) (pe_fld (pv 6) rfl) (fun _ _ => rfl)) pa_nil))))) pss_nil) (pss_one (ps_set (i := 5) sc_run.nd rfl (Or.inl rfl) (pe_def (d_goal_of T) hr (pa_cons (pv 6) (pa_cons (pv 3) pa_nil)))))))))))))) (pss_one (ps_ret (pe_lst (pa_cons (gl T.c_NO_WAY_ON) pa_nil)))))))), ?_⟩
    refine ⟨_, rfl, g, _, rfl, .inl hg, fun v hv => ⟨_, rfl, ?_⟩⟩
    have tell : ∀ {H' : Hp} {r : Sc12.Result}, Same H H' → cont rs steps 0 l0 = r → ∀ q, H' q = none → Q (.ref q) (upd H' q (.lst ((toldR r).map V.int))) := fun {H' r} sm e q hq => by
      rw [e] at k
      exact k _ q (fun b o eb => by rw [upd_ne (ne_of_none (sm b o eb) hq)]; exact sm b o eb) (sm.free hq) upd_same
    refine ⟨fun m σ H' => ∃ (left b : Int) (l : List Int) (o : Option V), σ = [some (.ref p), some (.int steps), some (.ref g), some (.ref v), some (.int left), some (.int b), o] ∧ m = left.toNat ∧ 0 ≤ left ∧ Longs l ∧ H' v = some (.lst (l.map V.int)) ∧ Same H H' ∧ cont rs steps 0 l0 = cont rs left b l,
      ⟨_, steps, 0, l0, none, rfl, rfl, h0, hl0, upd_same, fun b o e => by rw [upd_ne (ne_of_none e hv)]; exact e, rfl⟩, ?_⟩
    rintro m σ H' ⟨left, b, l, o, rfl, rfl, hleft, hl, hv', sm, hc⟩
    have BA' := BA.same sm
    have BA2 := BA
    obtain ⟨lb, bs, eF, B0⟩ := BA2
    have B := B0.same sm
    obtain ⟨dx, hp⟩ := B.ins
    refine ⟨_, rfl, p, dx, _, rfl, hp, rfl, _, rfl, p, rs, F, b, rfl, BA', _, rfl, ?_⟩
    refine ite2 (fun hb => ?_) (fun hb => ?_)
    · obtain ⟨i, r, e1, e2, e3, e4⟩ := hasB_get hb
      subst e1
      obtain ⟨c, hcb, BB⟩ := B0.at_ i r e3
      obtain ⟨lg, as, BI0⟩ := BB
      have BI := BI0.same sm
      obtain ⟨dc, hi⟩ := BI.ins
      have ok := wf.at_ r (List.mem_of_getElem? e3)
      have hcB := cont_block (l := l) e3 hleft
      have hlen : ((as.map V.ref).length : Int) = r.steps.length := by rw [List.length_map, BI.len]
      have vls : v ≠ c.2 := fun e => ne_of_none BI0.lst hv e.symm
      refine ⟨fun σ' H'' => ∃ m', m' < left.toNat ∧ _, fun _ _ h => h, ?_⟩
      refine ⟨_, rfl, p, _, _, _, _, rfl, hp, T.cl_Body, T.na_Body_blocks, lk_blocks, _, rfl, lb, _, _, _, rfl, rfl, SqL.of B.lst, at_of (j := i) rfl (by rw [List.getElem?_map, hcb]; rfl), ?_⟩
      refine ⟨_, rfl, _, rfl, c.1, _, dc, _, _, rfl, hi, T.cl_Block, T.na_Block_steps, lk_steps, c.2, _, rfl, .inl (SqL.of BI.lst), _, _, rfl, rfl, ?_⟩
      refine ⟨_, rfl, _, _, rfl, rfl, _, rfl, ite2 (fun h => ?_) (fun h => ?_)⟩
      · have h := of_decide_eq_true h
        rw [hlen] at h
        rw [if_pos h] at hcB
        exact ⟨(by show 1 ≤ sizeLine; decide), tell sm (hc.trans hcB)⟩
      have h : ¬ left - (r.steps.length : Int) < 0 := fun z => h (decide_eq_true (by rw [hlen]; exact z))
      rw [if_neg h] at hcB
      refine ⟨_, rfl, _, rfl, c.1, _, dc, _, _, rfl, hi, T.cl_Block, T.na_Block_steps, lk_steps, v, c.2, as, l, r.steps, rfl, hv', hl, vls, BI.lst, BI.len, BI.at_, ok.steps, ?_⟩
      have L2' : Longs (doAll r.steps l) := doAll_long hl ok.steps
      have sm2 : Same H (upd H' v (.lst ((doAll r.steps l).map V.int))) := fun b o e => by rw [upd_ne (ne_of_none e hv)]; exact sm b o e
      have hi2 : (upd H' v (.lst ((doAll r.steps l).map V.int))) c.1 = some (.ins A.Block dc (bfs c.2 lg r.fin r.var)) := by
        obtain ⟨dc0, hi0⟩ := BI0.ins
        have z := sm _ _ hi0
        rw [hi] at z
        rw [upd_ne (ne_of_none hi0 hv)]
        exact hi
      rw [run_end wf e3 L2'] at hcB
      refine ⟨_, rfl, c.1, _, dc, _, _, rfl, hi2, T.cl_Block, T.na_Block_end, lk_end, rfl, _, rfl, ite2 (fun h1 => ?_) (fun h1 => ?_)⟩
      · have h1 : r.fin = 0 := V.int.inj (of_decide_eq_true h1)
        rw [if_pos h1] at hcB
        exact ⟨(by show 1 ≤ sizeLine; decide), tell sm2 (hc.trans hcB)⟩
      have h1 : ¬ r.fin = 0 := fun z => h1 (decide_eq_true (by rw [z]))
      rw [if_neg h1] at hcB
      refine ⟨_, rfl, _, _, rfl, rfl, ?_⟩
      refine ⟨_, rfl, _, _, rfl, rfl, _, rfl, ite2 (fun h2 => ?_) (fun h2 => ?_)⟩
      · have h2 := of_decide_eq_true h2
        rw [hlen] at h2
        rw [if_pos (by omega)] at hcB
        exact ⟨(by show 1 ≤ sizeLine; decide), tell sm2 (hc.trans hcB)⟩
      have h2 : ¬ left - (r.steps.length : Int) - 1 < 0 := fun z => h2 (decide_eq_true (by rw [hlen]; exact z))
      rw [if_neg (by omega)] at hcB
      refine ⟨_, rfl, c.1, _, dc, _, _, rfl, hi2, T.cl_Block, T.na_Block_end, lk_end, rfl, _, rfl, ite2 (fun h3 => ?_) (fun h3 => ?_)⟩
      · have h3 : r.fin = 3 := V.int.inj (of_decide_eq_true h3)
        rw [if_pos h3] at hcB
        have hvar : isV r.var = true := by
          rcases ok.fin with z | z | z | z
          · rw [h3] at z; exact absurd z.1 (by decide)
          · rw [h3] at z; exact absurd z.1 (by decide)
          · exact z.2.1
          · exact z.2.1
        exact ⟨_, rfl, _, rfl, c.1, _, dc, _, _, rfl, hi2, T.cl_Block, T.na_Block_variable, lk_variable, v, _, _, _, rfl, rfl, SqL.of upd_same, at_val L2' (isV_iff.mp hvar), (by show 2 ≤ sizeLine; decide), tell sm2 (hc.trans hcB)⟩
      have h3 : ¬ r.fin = 3 := fun z => h3 (decide_eq_true (by rw [z]))
      rw [if_neg h3] at hcB
      have hf : r.fin = 1 ∨ r.fin = 2 := by
        rcases ok.fin with z | z | z | z
        · exact absurd z.1 h1
        · exact .inl z.1
        · exact .inr z.1
        · exact absurd z.1 h3
      refine ⟨_, rfl, _, rfl, c, v, r, doAll r.steps l, rfl, ⟨lg, as, BI0.same sm2⟩, ok, hf, SqL.of upd_same, L2', ?_⟩
      refine ⟨(left - (r.steps.length : Int) - 1).toNat, by omega, left - ((as.map V.ref).length : Int) - 1, goalB r (doAll r.steps l), doAll r.steps l, _, rfl, by rw [hlen], by rw [hlen]; omega, L2', upd_same, sm2, ?_⟩
      rw [hc, hcB, hlen]
      congr 1
      omega
    · have hb : hasB rs b = false := by simpa using hb
      have e : cont rs left b l = (-3, none) := by unfold cont; rw [hb]; rfl
      exact ⟨(by show 1 ≤ sizeLine; decide), tell sm (hc.trans e)⟩
end BF
end


section
set_option Elab.async false
set_option linter.all false
set_option maxRecDepth 100000
set_option maxHeartbeats 4000000
namespace BF
open PySem PySem.Spec PyProof.Rows L2
variable {P : Program} {w : World} {K : PySem.W.Frag} {mg : Str → Option Value} {base : Heap} {A : Ad}
theorem and_nat (m n : Nat) : Builtin.bitAnd (m : Int) (n : Int) = ((m &&& n : Nat) : Int) := by
  rw [bitAnd_pp (by omega) (by omega)]; simp
theorem or_nat (m n : Nat) : Builtin.bitOr (m : Int) (n : Int) = ((m ||| n : Nat) : Int) := by
  rw [bitOr_and, and_nat]
  have := nat_or_add_and m n
  omega
theorem nat_xor_add (m : Nat) : ∀ n : Nat, (m ^^^ n) + 2 * (m &&& n) = m + n := by
  induction m using Nat.strongRecOn with
  | ind m ih =>
    intro n
    by_cases h0 : m = 0
    · subst h0; simp
    · have ih' := ih (m / 2) (by omega) (n / 2)
      rw [← Nat.xor_div_two, ← Nat.and_div_two] at ih'
      have o1 := @Nat.xor_mod_two_eq_one m n
      have a1 := @Nat.and_mod_two_eq_one m n
      omega
theorem xor_nat (m n : Nat) : Builtin.bitXor (m : Int) (n : Int) = ((m ^^^ n : Nat) : Int) := by
  rw [bitXor_and, and_nat]
  have := nat_xor_add m n
  omega
theorem shl_nat (b : Nat) : (1 : Int) * 2 ^ ((b : Int)).toNat = ((2 ^ b : Nat) : Int) := by
  have e : ((b : Int)).toNat = b := by omega
  rw [e, Int.one_mul]
  norm_cast
theorem bit_test (n b : Nat) : decide (V.int (Builtin.bitAnd ((n : Int) / 2 ^ ((b : Int)).toNat) 1) = V.int 1) = n.testBit b := by
  rw [bitAnd_m1, Nat.testBit_eq_decide_div_mod_eq, decide_eq_decide]
  have e : ((b : Int)).toNat = b := by omega
  rw [e]
  have : ((n : Int) / 2 ^ b) % 2 = ((n / 2 ^ b % 2 : Nat) : Int) := by norm_cast
  rw [this]
  constructor
  · intro h
    have := V.int.inj h
    omega
  · intro h
    rw [h]; rfl
def natV (n : Nat) : V := .int (n : Int)
def spHolds : Sp := fun vs H Q _ => ∃ (n b : Nat), vs = [natV n, natV b] ∧ Q (.bl (n.testBit b)) H
theorem d_holds (T : Txt K mg A) : Def P w K mg base 1 "holds" ["numbered", "i"] spHolds := by
  refine T.r_holds.def sc_holds (fun vs H Q E h => ?_) (fun f cdv A' outer s H vs Q E hr h => ?_)
  · obtain ⟨n, b, rfl, _⟩ := h
    rfl
  · obtain ⟨n, b, rfl, k⟩ := h
    refine ⟨_, (pss_one (ps_ret (pe_cmpR op_eq (pe_op op_and (pe_op op_shr (pv 0) (pv 1)) pe_int) pe_int (nomark _)))), ?_⟩
    refine ⟨_, rfl, _, rfl, _, _, rfl, rfl, (by show (0 : Int) ≤ (b : Int); omega), _, _, rfl, rfl, rfl, ?_⟩
    exact Qb k (bit_test n b).symm
theorem behind_goals {rs : List RB} (wf : Wf rs) {i : Nat} {r : RB} (hr : rs[i]? = some r) : r.goals.filter (hasB rs) = (Sc12.behind (abs rs) i).map fun n : Nat => (n : Int) := by
  have ok := (wf.at_ r (List.mem_of_getElem? hr)).fin
  unfold Sc12.behind
  rw [endOf_abs hr, abs_len]
  have one : ∀ t : Int, isT t = true → (hasB rs t = decide (t.toNat < rs.length)) ∧ ((t.toNat : Nat) : Int) = t := fun t ht => by
    have := isT_iff.mp ht
    refine ⟨?_, by omega⟩
    unfold hasB
    rw [decide_eq_decide]
    omega
  rcases ok with ⟨e1, e2⟩ | ⟨e1, t, e2, e3⟩ | ⟨e1, e2, y, n, e3, e4, e5⟩ | ⟨e1, e2, e3⟩
  · have : absE r = .none_ := by unfold absE; rw [e1]; rfl
    rw [this, e2]; rfl
  · have : absE r = .jump t.toNat := by unfold absE; rw [e1, e2]; rfl
    rw [this, e2]
    obtain ⟨o1, o2⟩ := one t e3
    simp only [List.filter_cons, List.filter_nil, o1]
    split <;> simp [o2]
  · have : absE r = .branch r.var.toNat y.toNat n.toNat := by unfold absE; rw [e1, e3]; rfl
    rw [this, e3]
    obtain ⟨o1, o2⟩ := one y e4
    obtain ⟨o3, o4⟩ := one n e5
    simp only [List.filter_cons, List.filter_nil, o1, o3]
    split <;> split <;> simp [o2, o4]
  · have : absE r = .ret r.var.toNat := by unfold absE; rw [e1]; rfl
    rw [this, e3]; rfl
def spBehind (A : Ad) : Sp := fun vs H Q _ => ∃ (p : Addr) (rs : List RB) (F : List Addr) (i : Nat), vs = [.ref p, natV i] ∧ BodyAt A H p rs F ∧ Wf rs ∧ i < rs.length ∧
  ∀ (H' : Hp) (q : Addr), Same H H' → H q = none → H' q = some (.lst ((Sc12.behind (abs rs) i).map natV)) → Q (.ref q) H'
theorem d_behind (T : Txt K mg A) : Def P w K mg base 2 "behind" ["body", "b"] (spBehind A) := by
  refine T.r_behind.def sc_behind (fun vs H Q E h => ?_) (fun f cdv A' outer s H vs Q E hr h => ?_)
  · obtain ⟨p, rs, F, i, rfl, _⟩ := h
    rfl
  · obtain ⟨p, rs, F, i, rfl, BA, wf, hi, k⟩ := h
    have BA2 := BA
    obtain ⟨lb, bs, eF, B⟩ := BA2
    obtain ⟨dx, hp⟩ := B.ins
    obtain ⟨r, e3⟩ : ∃ r, rs[i]? = some r := ⟨_, List.getElem?_eq_getElem hi⟩
    obtain ⟨c, hcb, lg, as, BI⟩ := B.at_ i r e3
    obtain ⟨dc, hic⟩ := BI.ins
    refine ⟨_, (pss_one (ps_ret (pe_lc (own := [("c", 2)]) rfl sc_behind.nd (pi_tup (pe_fld (pe_ix ix_list (pe_fld (pv 0) rfl) (pv 1) (fun _ _ => rfl)) rfl)) (blkOk_by (N := ["body", "b", "c"]) (sc := defScope s_behind) (by decide +kernel)) (fun _ _ _ _ _ => (pg_name (i := 2) sc_behind.nd rfl (Or.inl rfl))) (fun _ _ _ _ _ => (pts_one (pt_val (pe_dm (pv 0) T.cl_Body (d_Body_has_block T) hr (pa_cons (pv 2) pa_nil))))) (fun _ _ _ _ _ => (pv 2))))), ?_⟩
    refine ⟨_, rfl, p, _, _, _, _, rfl, hp, T.cl_Body, T.na_Body_blocks, lk_blocks, _, rfl, lb, _, _, _, rfl, rfl, SqL.of B.lst, at_of (j := i) rfl (by rw [List.getElem?_map, hcb]; rfl), ?_⟩
    refine ⟨c.1, _, dc, _, _, rfl, hic, T.cl_Block, T.na_Block_goals, lk_goals, lg, rfl, ⟨_, SqT.of BI.tup⟩, fun D hD => ?_⟩
    refine lc_tup (K := K) (a := lg) (xs := r.goals.map V.int) (fun j H' => H' D = some (.lst (((r.goals.take j).filter (hasB rs)).map V.int)) ∧ Same H H') ⟨upd_same, fun b o e => by rw [upd_ne (ne_of_none e hD)]; exact e⟩ (fun j H' _ h => SqT.of (h.2 _ _ BI.tup)) ?_ ?_
    · rintro j x H' hj ⟨hd, sm⟩
      obtain ⟨t, ht, rfl⟩ : ∃ t, r.goals[j]? = some t ∧ x = V.int t := by
        rw [List.getElem?_map] at hj
        cases e : r.goals[j]? with
        | none => rw [e] at hj; cases hj
        | some t => rw [e] at hj; exact ⟨t, rfl, (Option.some.inj hj).symm⟩
      have BA' := BA.same sm
      refine ⟨rfl, _, rfl, p, _, _, rfl, sm _ _ hp, rfl, _, rfl, p, rs, F, t, rfl, BA', _, rfl, ?_⟩
      have e : ((r.goals.take (j + 1)).filter (hasB rs)).map V.int = ((r.goals.take j).filter (hasB rs)).map V.int ++ (if hasB rs t = true then [V.int t] else []) := by
        rw [take_snoc ht, List.filter_append, List.map_append, List.filter_cons, List.filter_nil]
        split <;> rfl
      refine ite2 (fun h => ⟨_, rfl, _, hd, ?_, ?_, fun b o eb => ?_⟩) (fun h => ⟨?_, sm⟩)
      · rw [List.length_map]
        have h1 := List.length_filter_le (hasB rs) (r.goals.take j)
        have h2 : (r.goals.take j).length ≤ r.goals.length := by rw [List.length_take]; omega
        have h3 : r.goals.length ≤ 2 := by
          rcases (wf.at_ r (List.mem_of_getElem? e3)).fin with z | ⟨_, t, z, _⟩ | ⟨_, _, y, n, z, _⟩ | z
          · rw [z.2]; decide
          · rw [z]; simp
          · rw [z]; simp
          · rw [z.2.2]; decide
        have : (2 : Nat) < sizeLine := by decide
        omega
      · rw [upd_same, e, if_pos h]
      · rw [upd_ne (ne_of_none eb hD)]; exact sm b o eb
      · rw [hd, e, if_neg h, List.append_nil]
    · rintro H' ⟨hd, sm⟩
      rw [List.length_map, List.take_length, behind_goals wf e3, List.map_map] at hd
      exact k H' D sm hD hd
theorem tYes_of {σ : L2.St} {H : Hp} {C B : Hp → Prop} (h : C H) : tYes σ H fun b H3 => if b = true then C H3 else B H3 := by
  show if true = true then C H else B H
  exact iteT h
def LeadsAt (H : Hp) (q : Addr) (L : List (List Nat)) : Prop := ∃ as : List Addr, H q = some (.lst (as.map V.ref)) ∧ as.length = L.length ∧ ∀ (j : Nat) (l : List Nat), L[j]? = some l → ∃ c, as[j]? = some c ∧ H c = some (.lst (l.map natV))
theorem LeadsAt.same {H H' : Hp} {q : Addr} {L : List (List Nat)} (h : LeadsAt H q L) (sm : Same H H') : LeadsAt H' q L := by
  obtain ⟨as, h1, h2, h3⟩ := h
  exact ⟨as, sm _ _ h1, h2, fun j l e => let ⟨c, e1, e2⟩ := h3 j l e; ⟨c, e1, sm _ _ e2⟩⟩
def leadsOf (s : Sc12.State) : List (List Nat) := (List.range s.length).map fun i => Sc12.behind s i
def spEach (A : Ad) : Sp := fun vs H Q _ => ∃ (p : Addr) (rs : List RB) (F : List Addr), vs = [.ref p] ∧ BodyAt A H p rs F ∧ Wf rs ∧ ∀ (H' : Hp) (q : Addr), Same H H' → H q = none → LeadsAt H' q (leadsOf (abs rs)) → Q (.ref q) H'
theorem d_behind_each (T : Txt K mg A) : Def P w K mg base 3 "behind_each" ["body"] (spEach A) := by
  refine T.r_behind_each.def sc_behind_each (fun vs H Q E h => ?_) (fun f cdv A' outer s H vs Q E hr h => ?_)
  · obtain ⟨p, rs, F, rfl, _⟩ := h
    rfl
  · obtain ⟨p, rs, F, rfl, BA, wf, k⟩ := h
    have BA2 := BA
    obtain ⟨lb, bs, eF, B⟩ := BA2
    obtain ⟨dx, hp⟩ := B.ins
    refine ⟨_, (pss_one (ps_ret (pe_lc (own := [("b", 1)]) rfl sc_behind_each.nd (pi_range1 rfl T.b_range (pa_cons (pe_callB call_len_seq (by rfl) T.b_len bt_len (pa_cons (pe_fld (pv 0) rfl) pa_nil)) pa_nil)) (blkOk_by (N := ["body", "b"]) (sc := defScope s_behind_each) (by decide +kernel)) (fun _ _ _ _ _ => (pg_name (i := 1) sc_behind_each.nd rfl (Or.inl rfl))) (fun _ _ _ _ _ => pts_nil) (fun _ _ _ _ _ => (pe_def (d_behind T) hr (pa_cons (pv 0) (pa_cons (pv 1) pa_nil))))))), ?_⟩
    have hn : (bs.map fun b => V.ref b.1).length = rs.length := by rw [List.length_map, B.len]
    have h64 := wf.len
    refine ⟨_, rfl, p, _, _, _, _, rfl, hp, T.cl_Body, T.na_Body_blocks, lk_blocks, lb, _, rfl, .inl (SqL.of B.lst), _, rfl, (by rw [hn]; omega), (by rw [hn]; omega), fun D hD => ?_⟩
    refine lc_range (lo := 0) (fun i H' => ∃ as : List Addr, H' D = some (.lst (as.map V.ref)) ∧ as.length = i ∧ Same H H' ∧ ∀ j, j < i → ∃ c, as[j]? = some c ∧ c ≠ D ∧ H' c = some (.lst ((Sc12.behind (abs rs) j).map natV)))
      ⟨[], upd_same, rfl, fun b o e => by rw [upd_ne (ne_of_none e hD)]; exact e, fun j hj => absurd hj (Nat.not_lt_zero _)⟩ ?_ ?_
    · rintro i H' hi ⟨as, hd, hl, sm, hat⟩
      have hi : i < rs.length := by rw [hn] at hi; simpa using hi
      refine ⟨rfl, tYes_of ?_⟩
      refine ⟨_, rfl, _, rfl, p, rs, F, i, (by simp [natV]), BA.same sm, wf, hi, fun H2 q s2 hq hq2 => ?_⟩
      have nD : q ≠ D := fun e => by rw [e, hd] at hq; cases hq
      refine ⟨_, s2 _ _ hd, by rw [List.length_map, hl]; exact Nat.lt_of_lt_of_le hi (Nat.le_trans h64 (by decide)), as ++ [q], by rw [upd_same, List.map_append]; rfl, by simp [hl], fun b o e => by rw [upd_ne (ne_of_none e hD)]; exact s2 _ _ (sm _ _ e), fun j hj => ?_⟩
      by_cases e : j = i
      · subst e
        exact ⟨q, by rw [List.getElem?_append_right (by omega), hl]; simp, nD, by rw [upd_ne nD]; exact hq2⟩
      · obtain ⟨c, e1, e2, e3⟩ := hat j (by omega)
        exact ⟨c, by rw [List.getElem?_append_left (by omega)]; exact e1, e2, by rw [upd_ne e2]; exact s2 _ _ e3⟩
    · rintro H' ⟨as, hd, hl, sm, hat⟩
      have el : as.length = rs.length := by rw [hl, hn]; simp
      refine k H' D sm hD ⟨as, hd, by unfold leadsOf; rw [List.length_map, List.length_range, abs_len, el], fun j l e => ?_⟩
      unfold leadsOf at e
      rw [List.getElem?_map] at e
      have hj : j < rs.length := by
        refine Classical.byContradiction fun z => ?_
        rw [List.getElem?_eq_none (by rw [List.length_range, abs_len]; omega)] at e
        cases e
      rw [List.getElem?_range (by rw [abs_len]; exact hj)] at e
      cases e
      obtain ⟨c, e1, _, e3⟩ := hat j (by rw [hn]; simp; exact hj)
      exact ⟨c, e1, e3⟩
end BF
end


section
set_option Elab.async false
set_option linter.all false
set_option maxRecDepth 100000
set_option maxHeartbeats 4000000
namespace BF
open PySem PySem.Spec PyProof.Rows L2
variable {P : Program} {w : World} {K : PySem.W.Frag} {mg : Str → Option Value} {base : Heap} {A : Ad}
def avoidI (s : Sc12.State) (a : Int) (x : Nat) : List Nat := (Sc12.behind s x).filter fun t => decide ((t : Int) ≠ a)
theorem mem_avoidI {s : Sc12.State} {a : Int} {x y : Nat} : y ∈ avoidI s a x ↔ y ∈ Sc12.behind s x ∧ (y : Int) ≠ a := by
  unfold avoidI; rw [List.mem_filter]; simp
def RW (s : Sc12.State) (a : Int) (x : Nat) : Prop := 0 < s.length ∧ a ≠ 0 ∧ Reach (avoidI s a) [0] x
theorem RW.lt {s : Sc12.State} {a : Int} {x : Nat} (h : RW s a x) : x < s.length := h.2.2.lt (by simp; exact h.1) fun _ _ y hy => behind_lt (mem_avoidI.mp hy).1
theorem RW_all {s : Sc12.State} (hs : s.length ≤ 64) {x : Nat} : RW s (-1) x ↔ x ∈ Sc12.reached s := by
  rw [mem_reached hs]
  constructor
  · rintro ⟨h0, _, r⟩
    exact ⟨h0, r.mono (fun x m => .base m) fun _ _ r m => .step r (mem_avoidI.mp m).1⟩
  · rintro ⟨h0, r⟩
    exact ⟨h0, by decide, r.mono (fun x m => .base m) fun x y r m => .step r (mem_avoidI.mpr ⟨m, by omega⟩)⟩
theorem RW_past {s : Sc12.State} {a x : Nat} : RW s (a : Int) x ↔ 0 < s.length ∧ Past s a x := by
  have e : ∀ x, avoidI s (a : Int) x = avoid s a x := fun x => by
    unfold avoidI avoid
    congr 1
    funext t
    by_cases h : t = a
    · simp [h]
    · have : ¬ (t : Int) = a := by omega
      simp [h, this]
  unfold RW Past
  have e' : avoidI s (a : Int) = avoid s a := funext e
  rw [e']
  constructor
  · rintro ⟨h0, h1, h2⟩; exact ⟨h0, by omega, h2⟩
  · rintro ⟨h0, h1, h2⟩; exact ⟨h0, by omega, h2⟩
theorem over_bits {s : Sc12.State} (hs : s.length ≤ 64) {a x m n : Nat} (hm : ∀ x, m.testBit x = true ↔ RW s (-1) x) (hn : ∀ x, n.testBit x = true ↔ RW s (a : Int) x) : (m ^^^ n).testBit x = Sc12.over s a x := by
  rw [Bool.eq_iff_iff, over_iff hs, Nat.testBit_xor, ← RW_all hs, ← hm x]
  have q : n.testBit x = true ↔ 0 < s.length ∧ Past s a x := by rw [hn x, RW_past]
  cases h1 : m.testBit x with
  | false =>
    cases h2 : n.testBit x with
    | false => simp
    | true =>
      exfalso
      have p := (q.mp h2)
      have := (hm x).mpr ((RW_all hs).mpr ((mem_reached hs).mpr ⟨p.1, p.2.reach⟩))
      rw [h1] at this; cases this
  | true =>
    have l0 := ((hm x).mp h1).1
    cases h2 : n.testBit x with
    | false => simp; exact fun p => by rw [q.mpr ⟨l0, p⟩] at h2; cases h2
    | true => simp; exact (q.mp h2).2
theorem behind_two (s : Sc12.State) (x : Nat) : (Sc12.behind s x).length ≤ 2 := by
  unfold Sc12.behind
  refine Nat.le_trans (List.length_filter_le _ _) ?_
  split <;> simp
def card (F : Nat) : Nat := (List.range 64).countP F.testBit
theorem card_le (F : Nat) : card F ≤ 64 := by
  unfold card
  have := List.countP_le_length (p := F.testBit) (l := List.range 64)
  rw [List.length_range] at this
  exact this
theorem countP_put {F b : Nat} (h : F.testBit b = false) : ∀ n : Nat, (List.range n).countP (F ||| 2 ^ b).testBit = (List.range n).countP F.testBit + (if b < n then 1 else 0)
  | 0 => by simp
  | n + 1 => by
    rw [List.range_succ, List.countP_append, List.countP_append, countP_put h n]
    simp only [List.countP_cons, List.countP_nil, Nat.zero_add, Nat.testBit_or, Nat.testBit_two_pow]
    by_cases e : b = n
    · subst e
      simp [h]
    · by_cases l : b < n
      · have : b < n + 1 := by omega
        simp [e, l, this]; omega
      · have : ¬ b < n + 1 := by omega
        simp [e, l, this]
theorem card_put {F b : Nat} (h : F.testBit b = false) (hb : b < 64) : card (F ||| 2 ^ b) = card F + 1 := by
  unfold card; rw [countP_put h, if_pos hb]
structure Dfs (s : Sc12.State) (a : Int) (F : Nat) (wl : List Nat) : Prop where
  i1 : ∀ x, F.testBit x = true → RW s a x
  i2 : ∀ x ∈ wl, x < s.length ∧ ((x : Int) = a ∨ RW s a x)
  i3 : ∀ x, F.testBit x = true → ∀ y ∈ Sc12.behind s x, (y : Int) = a ∨ F.testBit y = true ∨ y ∈ wl
  i4 : 0 < s.length → (0 : Int) = a ∨ F.testBit 0 = true ∨ 0 ∈ wl
  i5 : wl.length ≤ 1 + 2 * card F
section
variable {s : Sc12.State} {a : Int} {F y : Nat} {wl : List Nat}
theorem Dfs.start : Dfs s a 0 (if 0 < s.length then [0] else []) := by
  refine ⟨fun x h => by simp at h, fun x m => ?_, fun x h => by simp at h, fun h => .inr (.inr (by simp [h])), by split <;> simp⟩
  split at m
  · rename_i h
    rw [List.mem_singleton.mp m]
    refine ⟨h, ?_⟩
    by_cases e : (0 : Int) = a
    · exact .inl e
    · exact .inr ⟨h, fun z => e z.symm, .base (by simp)⟩
  · simp at m
theorem Dfs.skip (D : Dfs s a F (wl ++ [y])) (h : (y : Int) = a ∨ F.testBit y = true) : Dfs s a F wl := by
  refine ⟨D.i1, fun x m => D.i2 x (List.mem_append_left _ m), fun x hx z hz => ?_, fun h0 => ?_, by have := D.i5; simp at this; omega⟩
  · rcases D.i3 x hx z hz with q | q | q
    · exact .inl q
    · exact .inr (.inl q)
    · rcases List.mem_append.mp q with q | q
      · exact .inr (.inr q)
      · rw [List.mem_singleton.mp q]
        rcases h with h | h
        · exact .inl h
        · exact .inr (.inl h)
  · rcases D.i4 h0 with q | q | q
    · exact .inl q
    · exact .inr (.inl q)
    · rcases List.mem_append.mp q with q | q
      · exact .inr (.inr q)
      · have e : 0 = y := List.mem_singleton.mp q
        subst e
        rcases h with h | h
        · exact .inl (by simpa using h)
        · exact .inr (.inl h)
theorem Dfs.take (hs : s.length ≤ 64) (D : Dfs s a F (wl ++ [y])) (h1 : (y : Int) ≠ a) (h2 : F.testBit y = false) : Dfs s a (F ||| 2 ^ y) (wl ++ Sc12.behind s y) ∧ card (F ||| 2 ^ y) = card F + 1 ∧ y < s.length := by
  have my : y ∈ wl ++ [y] := List.mem_append_right _ (List.mem_singleton.mpr rfl)
  have ry : RW s a y := (D.i2 y my).2.resolve_left h1
  have ly := (D.i2 y my).1
  have hb : ∀ x, (F ||| 2 ^ y).testBit x = true ↔ F.testBit x = true ∨ x = y := fun x => by
    rw [Nat.testBit_or, Nat.testBit_two_pow, Bool.or_eq_true, decide_eq_true_iff]
    exact ⟨fun h => h.imp id Eq.symm, fun h => h.imp id Eq.symm⟩
  have cd := card_put h2 (Nat.lt_of_lt_of_le ly hs)
  have mv : ∀ z, z ∈ wl ++ [y] → (F ||| 2 ^ y).testBit z = true ∨ z ∈ wl ++ Sc12.behind s y := fun z m => by
    rcases List.mem_append.mp m with m | m
    · exact .inr (List.mem_append_left _ m)
    · exact .inl ((hb z).mpr (.inr (List.mem_singleton.mp m)))
  refine ⟨⟨fun x hx => ?_, fun x m => ?_, fun x hx z hz => ?_, fun h0 => ?_, ?_⟩, cd, ly⟩
  · rcases (hb x).mp hx with q | q
    · exact D.i1 x q
    · rw [q]; exact ry
  · rcases List.mem_append.mp m with m | m
    · exact D.i2 x (List.mem_append_left _ m)
    · refine ⟨behind_lt m, ?_⟩
      by_cases e : (x : Int) = a
      · exact .inl e
      · exact .inr ⟨ry.1, ry.2.1, .step ry.2.2 (mem_avoidI.mpr ⟨m, e⟩)⟩
  · rcases (hb x).mp hx with q | q
    · rcases D.i3 x q z hz with t | t | t
      · exact .inl t
      · exact .inr (.inl ((hb z).mpr (.inl t)))
      · exact .inr (mv z t)
    · subst q
      exact .inr (.inr (List.mem_append_right _ hz))
  · rcases D.i4 h0 with t | t | t
    · exact .inl t
    · exact .inr (.inl ((hb 0).mpr (.inl t)))
    · exact .inr (mv 0 t)
  · have h5 := D.i5
    have := behind_two s y
    rw [List.length_append] at h5 ⊢
    simp at h5
    omega
theorem Dfs.done (D : Dfs s a F []) (x : Nat) : F.testBit x = true ↔ RW s a x := by
  refine ⟨D.i1 x, fun h => ?_⟩
  obtain ⟨h0, ha, r⟩ := h
  refine Reach.closed (P := fun x => F.testBit x = true) (fun x m => ?_) (fun x y hx hy => ?_) r
  · rw [List.mem_singleton.mp m]
    rcases D.i4 h0 with q | q | q
    · exact absurd q.symm ha
    · exact q
    · simp at q
  · have m := mem_avoidI.mp hy
    rcases D.i3 x hx y m.1 with q | q | q
    · exact absurd q m.2
    · exact q
    · simp at q
end
theorem snoc_of {l : List Nat} (h : 0 < l.length) : ∃ (l' : List Nat) (y : Nat), l = l' ++ [y] := by
  refine ⟨l.dropLast, l.getLast (fun e => by rw [e] at h; simp at h), (List.dropLast_concat_getLast _).symm⟩
theorem ifLst {c : Bool} {σ : L2.St} {H : Hp} {Q : VK} {x : Int} (h : ∀ wq, H wq = none → Q (.ref wq) (upd H wq (.lst (if c = true then [V.int x] else [])))) :
    if c = true then tLst (tCons (tC (V.int x)) tNil) σ H Q else tLst tNil σ H Q := by
  cases c with
  | true => exact iteT ⟨(by show 1 ≤ sizeLine; decide), fun p hp => h p hp⟩
  | false => exact iteF ⟨(by show 0 ≤ sizeLine; decide), fun p hp => h p hp⟩
def spRW : Sp := fun vs H Q _ => ∃ (q : Addr) (s : Sc12.State) (a : Int), vs = [.ref q, .int a] ∧ LeadsAt H q (leadsOf s) ∧ s.length ≤ 64 ∧ ∀ (H' : Hp) (n : Nat), Same H H' → (∀ x, n.testBit x = true ↔ RW s a x) → Q (natV n) H'
theorem leads_len {H : Hp} {q : Addr} {s : Sc12.State} (h : LeadsAt H q (leadsOf s)) : ∃ as : List Addr, H q = some (.lst (as.map V.ref)) ∧ as.length = s.length ∧ ∀ j, j < s.length → ∃ c, as[j]? = some c ∧ H c = some (.lst ((Sc12.behind s j).map natV)) := by
  obtain ⟨as, h1, h2, h3⟩ := h
  refine ⟨as, h1, by rw [h2]; unfold leadsOf; simp, fun j hj => h3 j _ ?_⟩
  unfold leadsOf
  rw [List.getElem?_map, List.getElem?_range hj]
  rfl
theorem d_reached_without (T : Txt K mg A) : Def P w K mg base 2 "reached_without" ["leads", "a"] spRW := by
  refine T.r_reached_without.def sc_reached_without (fun vs H Q E h => ?_) (fun f cdv A' outer s H vs Q E hr h => ?_)
  · obtain ⟨q, s, a, rfl, _⟩ := h
    rfl
  · obtain ⟨q, st, a, rfl, hL, h64, k⟩ := h
    obtain ⟨as, hq, hlen, hat⟩ := leads_len hL
    refine ⟨_, (pss_cons (ps_set (i := 2) sc_reached_without.nd rfl (Or.inl rfl) pe_int) (pss_cons (ps_set (i := 3) sc_reached_without.nd rfl (Or.inl rfl) (pe_ifExp (pt_cmpR op_gt (pe_callB call_len_seq (by rfl) T.b_len bt_len (pa_cons (pv 0) pa_nil)) pe_int (nomark _)) (pe_lst (pa_cons pe_int pa_nil)) (pe_lst pa_nil))) (pss_cons (ps_while PassesOwn.never (pt_cmpR op_gt (pe_callB call_len_seq (by rfl) T.b_len bt_len (pa_cons (pv 3) pa_nil)) pe_int (nomark _)) (pss_cons (ps_set (i := 4) sc_reached_without.nd rfl (Or.inl rfl) (pe_bm0 PySem.F.plainAttrs_list PySem.F.slot_list_pop PySem.F.type_list_pop mt_pop (pv 3))) (pss_one (ps_if (PW.pt (pw_and (pt_cmpR op_ne (pv 4) (pv 1) (nomark _)) (pw_and1 (pt_not (pt_val (pe_def (d_holds T) hr (pa_cons (pv 2) (pa_cons (pv 4) pa_nil)))))))) (pss_cons (ps_set (i := 2) sc_reached_without.nd rfl (Or.inl rfl) (pe_op op_or (pv 2) (pe_op op_shl pe_int (pv 4)))) (pss_one (ps_expr (pe_bm PySem.F.plainAttrs_list PySem.F.slot_list_extend PySem.F.type_list_extend mt_extend (pv 3) (pa_cons (pe_ix ix_list (pv 0) (pv 4) (fun _ _ => rfl)) pa_nil))))) pss_nil)))) (pss_one (ps_ret (pv 2)))))), ?_⟩
    refine ⟨_, rfl, q, _, rfl, .inl (SqL.of hq), _, _, rfl, rfl, _, rfl, ?_⟩
    refine ifLst fun wq hwq => ?_
    have e0 : (if decide (0 < ((as.map V.ref).length : Int)) = true then [V.int 0] else []) = (if 0 < st.length then [0] else []).map natV := by
      rw [List.length_map, hlen]
      by_cases h : 0 < st.length
      · rw [if_pos h, if_pos (decide_eq_true (by omega))]; rfl
      · rw [if_neg h, if_neg (fun c => h (by have := of_decide_eq_true c; omega))]; rfl
    rw [e0]
    refine ⟨fun m σ H' => ∃ (F : Nat) (wl : List Nat) (o : Option V), σ = [some (.ref q), some (.int a), some (natV F), some (.ref wq), o] ∧ H' wq = some (.lst (wl.map natV)) ∧ Same H H' ∧ m = wl.length + 3 * (64 - card F) ∧ Dfs st a F wl,
      ⟨_, 0, _, none, rfl, upd_same, fun b o e => by rw [upd_ne (ne_of_none e hwq)]; exact e, rfl, Dfs.start⟩, ?_⟩
    rintro m σ H' ⟨F, wl, o, rfl, hw, sm, rfl, D⟩
    refine ⟨_, rfl, wq, _, rfl, .inl (SqL.of hw), _, _, rfl, rfl, _, rfl, ?_⟩
    refine ite2 (fun h => ?_) (fun h => ?_)
    · have h := of_decide_eq_true h
      rw [List.length_map] at h
      obtain ⟨wl', y, rfl⟩ := snoc_of (l := wl) (by omega)
      refine ⟨fun σ' H'' => ∃ m', m' < (wl' ++ [y]).length + 3 * (64 - card F) ∧ _, fun _ _ h => h, ?_⟩
      refine ⟨_, rfl, .inl ⟨rfl, _, SqL.of hw⟩, wq, _, natV y, rfl, rfl, hw, by simp, ?_⟩
      have ew : ((wl' ++ [y]).map natV).dropLast = wl'.map natV := by rw [List.map_append]; simp
      have sm2 : Same H (upd H' wq (.lst (((wl' ++ [y]).map natV).dropLast))) := fun b o e => by rw [upd_ne (ne_of_none e hwq)]; exact sm b o e
      refine ⟨_, rfl, _, rfl, rfl, _, rfl, ?_⟩
      have go : (y : Int) = a ∨ F.testBit y = true → ∃ m', m' < (wl' ++ [y]).length + 3 * (64 - card F) ∧ ∃ (F' : Nat) (wl2 : List Nat) (o : Option V), ([some (.ref q), some (.int a), some (natV F), some (.ref wq), some (natV y)] : List (Option V)) = [some (.ref q), some (.int a), some (natV F'), some (.ref wq), o] ∧ (upd H' wq (.lst (((wl' ++ [y]).map natV).dropLast))) wq = some (.lst (wl2.map natV)) ∧ Same H (upd H' wq (.lst (((wl' ++ [y]).map natV).dropLast))) ∧ m' = wl2.length + 3 * (64 - card F') ∧ Dfs st a F' wl2 := fun c =>
        ⟨wl'.length + 3 * (64 - card F), by simp, F, wl', _, rfl, by rw [upd_same, ew], sm2, rfl, D.skip c⟩
      refine ite2 (fun h1 => ?_) (fun h1 => ?_)
      · have h1 : (y : Int) ≠ a := fun e => by
          have z : decide (natV y = V.int a) = false := by simpa using h1
          exact of_decide_eq_false z (by rw [← e]; rfl)
        refine ⟨_, rfl, _, rfl, F, y, rfl, _, rfl, ?_⟩
        refine ite2 (fun h2 => ?_) (fun h2 => ?_)
        · have h2 : F.testBit y = false := by simpa using h2
          obtain ⟨D2, cd, ly⟩ := D.take h64 h1 h2
          obtain ⟨c, ec, hc⟩ := hat y ly
          have hc2 := sm2 _ _ hc
          have b2 := behind_two st y
          have i5 := D.i5
          have cl := card_le (F ||| 2 ^ y)
          rw [List.length_append] at i5
          refine ⟨_, rfl, _, rfl, _, _, rfl, rfl, ⟨by omega, by omega, by decide⟩, _, _, rfl, rfl, ?_⟩
          refine ⟨_, rfl, .inl ⟨rfl, _, SqL.of upd_same⟩, _, rfl, _, rfl, q, _, _, _, rfl, rfl, SqL.of (sm2 _ _ hq), at_of (j := y) rfl (by rw [List.getElem?_map, ec]; rfl), wq, c, _, _, rfl, rfl, upd_same, hc2, ?_, ?_⟩
          · rw [ew, List.length_map, List.length_map]
            have : (200 : Nat) ≤ sizeLine := by decide
            simp at i5
            omega
          · refine ⟨(wl' ++ Sc12.behind st y).length + 3 * (64 - card (F ||| 2 ^ y)), ?_, F ||| 2 ^ y, wl' ++ Sc12.behind st y, some (natV y), ?_, ?_, fun b o e => by rw [upd_ne (ne_of_none e hwq)]; exact sm2 b o e, rfl, D2⟩
            · rw [List.length_append, List.length_append, cd]
              simp
              omega
            · have e1 : Builtin.bitOr (F : Int) (1 * 2 ^ ((y : Int)).toNat) = ((F ||| 2 ^ y : Nat) : Int) := by rw [shl_nat, or_nat]
              show [some (V.ref q), some (V.int a), some (V.int (Builtin.bitOr (F : Int) (1 * 2 ^ ((y : Int)).toNat))), some (V.ref wq), some (natV y)] = _
              rw [e1]; rfl
            · rw [upd_same, ew, List.map_append]
        · have h2 : F.testBit y = true := by simpa using h2
          exact go (.inr h2)
      · have h1 : (y : Int) = a := by
          have z : decide (natV y = V.int a) = true := by simpa using h1
          exact V.int.inj (of_decide_eq_true z)
        exact iteF (go (.inl h1))
    · have h0 : wl = [] := by
        cases wl with
        | nil => rfl
        | cons x l => exact absurd (decide_eq_true (by rw [List.length_map]; simp)) h
      subst h0
      exact ⟨_, rfl, k H' F sm fun x => D.done x⟩
end BF
end


section
set_option Elab.async false
set_option linter.all false
set_option maxRecDepth 100000
set_option maxHeartbeats 4000000
namespace BF
open PySem PySem.Spec PyProof.Rows L2
variable {P : Program} {w : World} {K : PySem.W.Frag} {mg : Str → Option Value} {base : Heap} {A : Ad}
def Under (s : Sc12.State) (us : List Nat) : Prop := us.length = s.length ∧ ∀ a x, a < s.length → (us.getD a 0).testBit x = Sc12.over s a x
theorem Under.at_ {s : Sc12.State} {us : List Nat} (U : Under s us) {a : Nat} (ha : a < s.length) : atI (us.map natV) ((a : Nat) : Int) = some (natV (us.getD a 0)) :=
  at_of (j := a) rfl (by rw [List.getElem?_map, List.getD_eq_getElem?_getD, List.getElem?_eq_getElem (by rw [U.1]; exact ha)]; rfl)
def spUnder1 : Sp := fun vs H Q _ => ∃ (q : Addr) (s : Sc12.State) (a : Nat), vs = [.ref q, natV a] ∧ LeadsAt H q (leadsOf s) ∧ s.length ≤ 64 ∧ ∀ (H' : Hp) (n : Nat), Same H H' → (∀ x, n.testBit x = Sc12.over s a x) → Q (natV n) H'
theorem d_under (T : Txt K mg A) : Def P w K mg base 3 "under" ["leads", "a"] spUnder1 := by
  refine T.r_under.def sc_under (fun vs H Q E h => ?_) (fun f cdv A' outer s H vs Q E hr h => ?_)
  · obtain ⟨q, s, a, rfl, _⟩ := h
    rfl
  · obtain ⟨q, st, a, rfl, hL, h64, k⟩ := h
    refine ⟨_, (pss_one (ps_ret (pe_op op_xor (pe_def (d_reached_without T) hr (pa_cons (pv 0) (pa_cons (gl T.c_NO_BLOCK) pa_nil))) (pe_def (d_reached_without T) hr (pa_cons (pv 0) (pa_cons (pv 1) pa_nil)))))), ?_⟩
    refine ⟨_, rfl, q, st, -1, rfl, hL, h64, fun H2 m s2 hm => ?_⟩
    refine ⟨_, rfl, _, rfl, q, st, (a : Int), rfl, hL.same s2, h64, fun H3 n s3 hn => ?_⟩
    refine ⟨_, _, rfl, rfl, ?_⟩
    have e : V.int (Builtin.bitXor (m : Int) (n : Int)) = natV (m ^^^ n) := by rw [xor_nat]; rfl
    exact Qv (k H3 (m ^^^ n) (s2.trans s3) fun x => over_bits h64 hm hn) e.symm
def spUnder : Sp := fun vs H Q _ => ∃ (q : Addr) (s : Sc12.State), vs = [.ref q] ∧ LeadsAt H q (leadsOf s) ∧ s.length ≤ 64 ∧ ∀ (H' : Hp) (q' : Addr) (us : List Nat), Same H H' → H q' = none → H' q' = some (.lst (us.map natV)) → Under s us → Q (.ref q') H'
theorem d_under_each (T : Txt K mg A) : Def P w K mg base 3 "under_each" ["leads"] spUnder := by
  refine T.r_under_each.def sc_under_each (fun vs H Q E h => ?_) (fun f cdv A' outer s H vs Q E hr h => ?_)
  · obtain ⟨q, s, rfl, _⟩ := h
    rfl
  · obtain ⟨q, st, rfl, hL, h64, k⟩ := h
    refine ⟨_, (pss_cons (ps_set (i := 1) sc_under_each.nd rfl (Or.inr rfl) (pe_def (d_reached_without T) hr (pa_cons (pv 0) (pa_cons (gl T.c_NO_BLOCK) pa_nil)))) (pss_one (ps_ret (pe_lc (own := [("a", 2)]) rfl sc_under_each.nd (pi_range1 rfl T.b_range (pa_cons (pe_callB call_len_seq (by rfl) T.b_len bt_len (pa_cons (pv 0) pa_nil)) pa_nil)) (blkOk_by (N := ["leads", "reached", "a"]) (sc := defScope s_under_each) (by decide +kernel)) (fun _ _ _ _ _ => (pg_name (i := 2) sc_under_each.nd rfl (Or.inl rfl))) (fun _ _ _ _ _ => pts_nil) (fun _ _ _ _ _ => (pe_op op_xor (pv 1) (pe_def (d_reached_without T) hr (pa_cons (pv 0) (pa_cons (pv 2) pa_nil))))))))), ?_⟩
    refine ⟨_, rfl, q, st, -1, rfl, hL, h64, fun H2 m s2 hm => ?_⟩
    have hL2 := hL.same s2
    obtain ⟨as, hq2, hlen, _⟩ := leads_len hL2
    have hn : (as.map V.ref).length = st.length := by rw [List.length_map, hlen]
    refine ⟨_, rfl, q, _, rfl, .inl (SqL.of hq2), _, rfl, (by rw [hn]; omega), (by rw [hn]; omega), fun D hD => ?_⟩
    refine lc_range (lo := 0) (fun i H' => ∃ us : List Nat, H' D = some (.lst (us.map natV)) ∧ us.length = i ∧ Same H2 H' ∧ ∀ a x, a < i → (us.getD a 0).testBit x = Sc12.over st a x)
      ⟨[], upd_same, rfl, fun b o e => by rw [upd_ne (ne_of_none e hD)]; exact e, fun j x hj => absurd hj (Nat.not_lt_zero _)⟩ ?_ ?_
    · rintro i H' hi ⟨us, hd, hl, sm, hat⟩
      have hi : i < st.length := by rw [hn] at hi; simpa using hi
      refine ⟨rfl, tYes_of ?_⟩
      refine ⟨_, rfl, _, rfl, _, rfl, q, st, (i : Int), (by simp), hL2.same sm, h64, fun H3 n s3 hn3 => ?_⟩
      refine ⟨_, _, rfl, rfl, _, s3 _ _ hd, by rw [List.length_map, hl]; exact Nat.lt_of_lt_of_le hi (Nat.le_trans h64 (by decide)), us ++ [m ^^^ n], ?_, by simp [hl], fun b o e => by rw [upd_ne (ne_of_none e hD)]; exact s3 _ _ (sm _ _ e), fun a x ha => ?_⟩
      · rw [upd_same, List.map_append]
        have := xor_nat m n
        simp only [List.map_cons, List.map_nil, natV, this]
      · by_cases e : a = i
        · subst e
          rw [List.getD_eq_getElem?_getD, List.getElem?_append_right (by omega), hl, Nat.sub_self]
          exact over_bits h64 hm hn3
        · rw [List.getD_eq_getElem?_getD, List.getElem?_append_left (by omega), ← List.getD_eq_getElem?_getD]
          exact hat a x (by omega)
    · rintro H' ⟨us, hd, hl, sm, hat⟩
      have el : us.length = st.length := by rw [hl, hn]; simp
      exact k H' D us (s2.trans sm) (s2.free hD) hd ⟨el, fun a x ha => hat a x (by rw [hn]; simpa using ha)⟩
def ov (rs : List RB) (a b : Int) : Int := if hasB rs a = true ∧ hasB rs b = true then (if Sc12.over (abs rs) a.toNat b.toNat = true then 1 else 0) else -2
def spOver (A : Ad) : Sp := fun vs H Q _ => ∃ (p : Addr) (rs : List RB) (F : List Addr) (a b : Int), vs = [.ref p, .int a, .int b] ∧ BodyAt A H p rs F ∧ Wf rs ∧ ∀ H' : Hp, Same H H' → Q (.int (ov rs a b)) H'
theorem d_over (T : Txt K mg A) : Def P w K mg base 4 "over" ["body", "a", "b"] (spOver A) := by
  refine T.r_over.def sc_over (fun vs H Q E h => ?_) (fun f cdv A' outer s H vs Q E hr h => ?_)
  · obtain ⟨p, rs, F, a, b, rfl, _⟩ := h
    rfl
  · obtain ⟨p, rs, F, a, b, rfl, BA, wf, k⟩ := h
    have h64 : (abs rs).length ≤ 64 := by rw [abs_len]; exact wf.len
    have BA2 := BA
    obtain ⟨lb, bs, eF, B⟩ := BA2
    obtain ⟨dx, hp⟩ := B.ins
    refine ⟨_, (pss_cons (ps_if (PW.pt (pw_or (pt_not (pt_val (pe_dm (pv 0) T.cl_Body (d_Body_has_block T) hr (pa_cons (pv 1) pa_nil)))) (pw_or1 (pt_not (pt_val (pe_dm (pv 0) T.cl_Body (d_Body_has_block T) hr (pa_cons (pv 2) pa_nil))))))) (pss_one (ps_ret (gl T.c_REFUSED))) pss_nil) (pss_one (ps_ret (pe_ifExp (pt_val (pe_def (d_holds T) hr (pa_cons (pe_def (d_under T) hr (pa_cons (pe_def (d_behind_each T) hr (pa_cons (pv 0) pa_nil)) (pa_cons (pv 1) pa_nil))) (pa_cons (pv 2) pa_nil)))) pe_int pe_int)))), ?_⟩
    refine ⟨_, rfl, p, dx, _, rfl, hp, rfl, _, rfl, p, rs, F, a, rfl, BA, _, rfl, ?_⟩
    refine ite2 (fun h1 => iteT ?_) (fun h1 => ?_)
    · have h1 : hasB rs a = false := by simpa using h1
      exact Qi (k H (Same.refl H)) (by unfold ov; rw [if_neg (by rw [h1]; simp)])
    have h1 : hasB rs a = true := by simpa using h1
    refine ⟨_, rfl, p, dx, _, rfl, hp, rfl, _, rfl, p, rs, F, b, rfl, BA, _, rfl, ?_⟩
    refine ite2 (fun h2 => ?_) (fun h2 => ?_)
    · have h2 : hasB rs b = false := by simpa using h2
      exact Qi (k H (Same.refl H)) (by unfold ov; rw [if_neg (by rw [h2]; simp)])
    have h2 : hasB rs b = true := by simpa using h2
    obtain ⟨i, ri, ei, ei2, _, _⟩ := hasB_get h1
    obtain ⟨j, rj, ej, ej2, _, _⟩ := hasB_get h2
    subst ei ej
    refine ⟨_, rfl, p, rs, F, rfl, BA, wf, fun H1 q s1 hq hL => ?_⟩
    refine ⟨_, rfl, q, abs rs, i, rfl, hL, h64, fun H3 n s3 hn => ?_⟩
    refine ⟨_, rfl, n, j, rfl, _, rfl, ?_⟩
    rw [hn]
    have k' := k H3 (s1.trans s3)
    unfold ov at k'
    rw [if_pos ⟨h1, h2⟩, ei2, ej2] at k'
    refine ite2 (fun h => ?_) (fun h => ?_)
    · rw [if_pos h] at k'; exact k'
    · rw [if_neg h] at k'; exact k'
def idm (rs : List RB) (b : Int) : Int := if hasB rs b = true then Sc12.idom (abs rs) b.toNat else -2
def aboveOf (s : Sc12.State) (b n : Nat) : List Nat := (List.range n).filter fun a => a != b && Sc12.over s a b
theorem idom_eq (s : Sc12.State) (b : Nat) : Sc12.idom s b = match (aboveOf s b s.length).find? fun a => (aboveOf s b s.length).all fun c => Sc12.over s c a with | some a => (a : Int) | none => -1 := rfl
theorem above_snoc (s : Sc12.State) (b n : Nat) : aboveOf s b (n + 1) = aboveOf s b n ++ (if (n != b && Sc12.over s n b) = true then [n] else []) := by
  unfold aboveOf
  rw [List.range_succ, List.filter_append, List.filter_cons, List.filter_nil]
theorem above_lt {s : Sc12.State} {b n a : Nat} (h : a ∈ aboveOf s b n) : a < n := by
  unfold aboveOf at h
  rw [List.mem_filter, List.mem_range] at h
  exact h.1
theorem above_len (s : Sc12.State) (b n : Nat) : (aboveOf s b n).length ≤ n := by
  unfold aboveOf
  have := List.length_filter_le (fun a => a != b && Sc12.over s a b) (List.range n)
  rw [List.length_range] at this
  exact this
theorem find_take {p : Nat → Bool} {l : List Nat} {i c : Nat} (h : ∀ x ∈ l.take i, p x = false) (hc : l[i]? = some c) (hp : p c = true) : l.find? p = some c := by
  have e : l = l.take i ++ (l.drop i) := (List.take_append_drop i l).symm
  have e2 : l.drop i = c :: l.drop (i + 1) := by
    obtain ⟨hl, e⟩ := List.getElem?_eq_some_iff.mp hc
    rw [List.drop_eq_getElem_cons hl, e]
  rw [e, e2, List.find?_append, List.find?_eq_none.mpr (fun x hx => by rw [h x hx]; simp)]
  simp [hp]
def spIdom (A : Ad) : Sp := fun vs H Q _ => ∃ (p : Addr) (rs : List RB) (F : List Addr) (b : Int), vs = [.ref p, .int b] ∧ BodyAt A H p rs F ∧ Wf rs ∧ ∀ H' : Hp, Same H H' → Q (.int (idm rs b)) H'
theorem d_idom (T : Txt K mg A) : Def P w K mg base 4 "idom" ["body", "b"] (spIdom A) := by
  refine T.r_idom.def sc_idom (fun vs H Q E h => ?_) (fun f cdv A' outer s H vs Q E hr h => ?_)
  · obtain ⟨p, rs, F, b, rfl, _⟩ := h
    rfl
  · obtain ⟨p, rs, F, b, rfl, BA, wf, k⟩ := h
    have h64 := wf.len
    have BA2 := BA
    obtain ⟨lb, bs, eF, B⟩ := BA2
    obtain ⟨dx, hp⟩ := B.ins
    refine ⟨_, (pss_cons (ps_if (pt_not (pt_val (pe_dm (pv 0) T.cl_Body (d_Body_has_block T) hr (pa_cons (pv 1) pa_nil)))) (pss_one (ps_ret (gl T.c_REFUSED))) pss_nil) (pss_cons (ps_set (i := 2) sc_idom.nd rfl (Or.inr rfl) (pe_def (d_under_each T) hr (pa_cons (pe_def (d_behind_each T) hr (pa_cons (pv 0) pa_nil)) pa_nil))) (pss_cons (ps_setLc (i := 3) (own := [("a", 5)]) rfl sc_idom.nd rfl rfl (sw_true rfl rfl rfl (by decide +kernel)) (pi_range1 rfl T.b_range (pa_cons (pe_callB call_len_seq (by rfl) T.b_len bt_len (pa_cons (pv 2) pa_nil)) pa_nil)) (blkOk_by (N := ["body", "b", "unders", "above", "c", "a"]) (sc := defScope s_idom) (by decide +kernel)) (fun _ _ _ _ _ => (pg_name (i := 5) sc_idom.nd rfl (Or.inl rfl))) (fun _ _ _ _ _ => (pts_one (PW.pt (pw_and (pt_cmpR op_ne (pv 5) (pv 1) (nomark _)) (pw_and1 (pt_val (pe_def (d_holds T) hr (pa_cons (pe_ix (ix_listK (K := K)) (pv 2) (pv 5) (fun _ _ => rfl)) (pa_cons (pv 1) pa_nil))))))))) (fun _ _ _ _ _ => (pv 5))) (pss_cons (ps_for PassesOwn.never rfl (pi_list (pv 3)) (pg_name (i := 4) sc_idom.nd rfl (Or.inr rfl)) (pss_one (ps_if (pt_val (pe_callB (cr_all rfl) (by rfl) T.b_all bt_all (pa_cons (pe_lc (own := [("a", 5)]) rfl sc_idom.nd (pi_list (pv 3)) (blkOk_by (N := ["body", "b", "unders", "above", "c", "a"]) (sc := defScope s_idom) (by decide +kernel)) (fun _ _ _ _ _ => (pg_name (i := 5) sc_idom.nd rfl (Or.inl rfl))) (fun _ _ _ _ _ => pts_nil) (fun _ _ _ _ _ => (pe_def (d_holds T) hr (pa_cons (pe_ix (ix_listK (K := K)) (pv 2) (pv 5) (fun _ _ => rfl)) (pa_cons (pv 4) pa_nil))))) pa_nil))) (pss_one (ps_ret (pv 4))) pss_nil))) (pss_one (ps_ret (gl T.c_NO_BLOCK))))))), ?_⟩
    refine ⟨_, rfl, p, dx, _, rfl, hp, rfl, _, rfl, p, rs, F, b, rfl, BA, _, rfl, ?_⟩
    refine ite2 (fun h1 => ?_) (fun h1 => ?_)
    · have h1 : hasB rs b = false := by simpa using h1
      exact Qi (k H (Same.refl H)) (by unfold idm; rw [if_neg (by rw [h1]; simp)])
    have h1 : hasB rs b = true := by simpa using h1
    obtain ⟨j, rj, ej, ej2, _, _⟩ := hasB_get h1
    subst ej
    have k2 : ∀ H' : Hp, Same H H' → Q (.int (Sc12.idom (abs rs) j)) H' := fun H' sm => Qi (k H' sm) (by unfold idm; rw [if_pos h1, ej2])
    rw [idom_eq, abs_len] at k2
    have h64' : (abs rs).length ≤ 64 := by rw [abs_len]; exact wf.len
    refine ⟨_, rfl, p, rs, F, rfl, BA, wf, fun H0 lq s0 hlq hL => ?_⟩
    refine ⟨lq, abs rs, rfl, hL, h64', fun H1 q us s01 hq hU U => ?_⟩
    have s1 : Same H H1 := s0.trans s01
    have uat : ∀ {H2 : Hp} {a : Nat}, a < rs.length → atI (us.map natV) ((a : Nat) : Int) = some (natV (us.getD a 0)) := fun {H2 a} ha =>
      at_of (j := a) rfl (by rw [List.getElem?_map, List.getD_eq_getElem?_getD, List.getElem?_eq_getElem (by rw [U.1, abs_len]; exact ha)]; rfl)
    have hul : (us.map natV).length = rs.length := by rw [List.length_map, U.1, abs_len]
    refine ⟨_, rfl, q, _, rfl, .inl (SqL.of hU), _, rfl, (by rw [hul]; omega), (by rw [hul]; omega), fun D hD => ?_⟩
    refine lc_range (lo := 0) (fun i H' => H' D = some (.lst ((aboveOf (abs rs) j i).map natV)) ∧ Same H1 H') ⟨upd_same, fun b o e => by rw [upd_ne (ne_of_none e hD)]; exact e⟩ ?_ ?_
    · rintro i H' hi ⟨hd, sm⟩
      have hi : i < rs.length := by rw [hul] at hi; simpa using hi
      refine ⟨rfl, ?_⟩
      refine ⟨_, rfl, _, rfl, rfl, _, rfl, ?_⟩
      have e0 : (0 : Int) + (i : Int) = (i : Int) := by omega
      have eb : (!decide (V.int (0 + (i : Int)) = V.int (j : Int))) = (i != j) := by
        rw [e0]
        by_cases e : i = j
        · subst e; simp
        · have : ¬ V.int (i : Int) = V.int (j : Int) := fun z => e (by have := V.int.inj z; omega)
          simp [this, e]
      have e := above_snoc (abs rs) j i
      have al := above_len (abs rs) j i
      rw [eb]
      refine ite2 (fun h => ?_) (fun h => ?_)
      · refine ⟨_, rfl, _, rfl, q, _, _, _, rfl, rfl, SqL.of (sm _ _ hU), (by rw [e0]; exact uat (H2 := H') hi), _, rfl, us.getD i 0, j, rfl, _, rfl, ?_⟩
        rw [U.2 i j (by rw [abs_len]; exact hi)]
        refine ite2 (fun h' => ⟨_, rfl, _, hd, ?_, ?_, fun b o eb => ?_⟩) (fun h' => ⟨?_, sm⟩)
        · rw [List.length_map]
          have : (64 : Nat) < sizeLine := by decide
          omega
        · rw [upd_same, e, if_pos (by rw [h, h']; rfl), List.map_append, e0]; rfl
        · rw [upd_ne (ne_of_none eb hD)]; exact sm b o eb
        · rw [hd, e, if_neg (by rw [h]; simpa using h'), List.append_nil]
      · refine iteF ⟨?_, sm⟩
        rw [hd, e, if_neg (by simp at h; simp [h]), List.append_nil]
    · rintro H2 ⟨hd, sm⟩
      have en : ((((us.map natV).length : Nat) : Int)).toNat = rs.length := by rw [hul]; simp
      rw [en] at hd
      have s2 : Same H H2 := s1.trans sm
      have hU2 := sm _ _ hU
      refine ⟨_, rfl, D, rfl, ⟨_, SqL.of hd⟩, for_list (K := K) (a := D) (xs := (aboveOf (abs rs) j rs.length).map natV) (fun i σ H' => ∃ o1 o2 : Option V, σ = [some (.ref p), some (.int (j : Int)), some (.ref q), some (.ref D), o1, o2] ∧ Same H2 H' ∧ ∀ x ∈ (aboveOf (abs rs) j rs.length).take i, ((aboveOf (abs rs) j rs.length).all fun c => Sc12.over (abs rs) c x) = false)
        ⟨none, none, rfl, Same.refl _, fun x m => by simp at m⟩ (fun i σ H' _ ⟨_, _, _, s3, _⟩ => SqL.of (s3 _ _ hd)) ?_ ?_⟩
      · rintro i y σ H' hi ⟨o1, o2, rfl, s3, hno⟩
        obtain ⟨c, hc, rfl⟩ : ∃ c, (aboveOf (abs rs) j rs.length)[i]? = some c ∧ y = natV c := by
          rw [List.getElem?_map] at hi
          cases e : (aboveOf (abs rs) j rs.length)[i]? with
          | none => rw [e] at hi; cases hi
          | some c => rw [e] at hi; exact ⟨c, rfl, (Option.some.inj hi).symm⟩
        refine ⟨_, rfl, D, rfl, ⟨_, SqL.of (s3 _ _ hd)⟩, fun D2 hD2 => ?_⟩
        refine lc_list (K := K) (a := D) (xs := (aboveOf (abs rs) j rs.length).map natV) (fun i2 H4 => H4 D2 = some (.lst ((((aboveOf (abs rs) j rs.length).take i2).map fun a => Sc12.over (abs rs) a c).map V.bl)) ∧ Same H' H4) ⟨upd_same, fun b o e => by rw [upd_ne (ne_of_none e hD2)]; exact e⟩ (fun i2 H4 _ h => SqL.of (h.2 _ _ (s3 _ _ hd))) ?_ ?_
        · rintro i2 y2 H4 hi2 ⟨hd2, s4⟩
          obtain ⟨a, ha, rfl⟩ : ∃ a, (aboveOf (abs rs) j rs.length)[i2]? = some a ∧ y2 = natV a := by
            rw [List.getElem?_map] at hi2
            cases e : (aboveOf (abs rs) j rs.length)[i2]? with
            | none => rw [e] at hi2; cases hi2
            | some a => rw [e] at hi2; exact ⟨a, rfl, (Option.some.inj hi2).symm⟩
          have la : a < rs.length := above_lt (List.mem_of_getElem? ha)
          have hl2 := (List.getElem?_eq_some_iff.mp ha).1
          have al := above_len (abs rs) j rs.length
          refine ⟨rfl, tYes_of ?_⟩
          refine ⟨_, rfl, _, rfl, q, _, _, _, rfl, rfl, SqL.of (s4 _ _ (s3 _ _ hU2)), uat (H2 := H') la, _, rfl, us.getD a 0, c, rfl, _, hd2, ?_, ?_, fun b o eb => ?_⟩
          · rw [List.length_map, List.length_map, List.length_take]
            have : (64 : Nat) < sizeLine := by decide
            omega
          · rw [upd_same, take_snoc ha, List.map_append, List.map_append, U.2 a c (by rw [abs_len]; exact la)]; rfl
          · rw [upd_ne (ne_of_none eb hD2)]; exact s4 b o eb
        · rintro H4 ⟨hd2, s4⟩
          rw [List.length_map, List.take_length] at hd2
          refine ⟨D2, _, rfl, SqL.of hd2, _, rfl, ?_⟩
          have ea : ((aboveOf (abs rs) j rs.length).map fun a => Sc12.over (abs rs) a c).all id = (aboveOf (abs rs) j rs.length).all fun a => Sc12.over (abs rs) a c := by rw [List.all_map]; rfl
          rw [ea]
          refine ite2 (fun h => ?_) (fun h => ?_)
          · refine ⟨_, rfl, ?_⟩
            have k3 := k2 H4 ((s2.trans s3).trans s4)
            rw [find_take hno hc h] at k3
            exact k3
          · refine ⟨_, _, rfl, s3.trans s4, fun x m => ?_⟩
            rw [take_snoc hc] at m
            rcases List.mem_append.mp m with m | m
            · exact hno x m
            · rw [List.mem_singleton.mp m]; simpa using h
      · rintro σ H' ⟨o1, o2, rfl, s3, hno⟩
        rw [List.length_map, List.take_length] at hno
        have k3 := k2 H' (s2.trans s3)
        rw [List.find?_eq_none.mpr (fun x hx => by rw [hno x hx]; simp)] at k3
        exact k3
end BF
end


section
set_option Elab.async false
set_option linter.all false
set_option maxRecDepth 100000
set_option maxHeartbeats 4000000
namespace BF
open PySem PySem.Spec PyProof.Rows L2
variable {P : Program} {w : World} {K : PySem.W.Frag} {mg : Str → Option Value} {base : Heap} {A : Ad}
theorem less_nat (m n : Nat) : Builtin.bitAnd (m : Int) (Builtin.bitNot (n : Int)) = ((less m n : Nat) : Int) := by
  have e : Builtin.bitNot (Builtin.bitNot (n : Int)) = (n : Int) := by unfold Builtin.bitNot; omega
  rw [bitAnd_pn (by omega) (by unfold Builtin.bitNot; omega), e]
  unfold less
  have h := nat_xor_add m (m &&& n)
  rw [← Nat.and_assoc, Nat.and_self] at h
  have h2 : m &&& n ≤ m := Nat.and_le_left
  simp only [Int.toNat_natCast]
  omega
theorem testBit_lessB (m n x : Nat) : (less m n).testBit x = (m.testBit x && !n.testBit x) := by
  unfold less
  rw [Nat.testBit_xor, Nat.testBit_and]
  cases m.testBit x <;> cases n.testBit x <;> rfl
theorem map_at {α β : Type} {f : α → β} {l : List α} {i : Nat} {y : β} (h : (l.map f)[i]? = some y) : ∃ c, l[i]? = some c ∧ y = f c := by
  rw [List.getElem?_map] at h
  cases e : l[i]? with
  | none => rw [e] at h; cases h
  | some c => rw [e] at h; exact ⟨c, rfl, (Option.some.inj h).symm⟩
def usedN (op x y : Int) : Nat := (if rdX op = true then 2 ^ x.toNat else 0) ||| (if rdY op = true then 2 ^ y.toNat else 0)
theorem testBit_usedN {op d x y : Int} (h0 : 0 ≤ op) (hy : rdY op = true → 0 ≤ y) (v : Nat) : (usedN op x y).testBit v = (absI (op, d, x, y)).uses v := by
  unfold usedN absI Sc12.Ins.uses
  rw [Nat.testBit_or]
  dsimp only
  have hb : ∀ n : Nat, (2 ^ n).testBit v = decide (n = v) := fun n => Nat.testBit_two_pow
  by_cases h3 : op ≤ 3
  · have e1 : rdX op = true := by unfold rdX; simp; omega
    have e2 : rdY op = true := by unfold rdY; simp; omega
    have y0 := hy e2
    have e3 : decide (op.toNat ≤ 3) = true := by simp; omega
    have e4 : (op.toNat == 4) = false := by simp; omega
    have e5 : (y == (v : Int)) = decide (y.toNat = v) := by rw [Bool.eq_iff_iff]; simp; omega
    rw [if_pos e1, if_pos e2, hb, hb, e3, e4, e5]
    simp
    rfl
  · have e2 : rdY op = false := by unfold rdY; simp; omega
    have e3 : decide (op.toNat ≤ 3) = false := by simp; omega
    by_cases h4 : op = 4
    · subst h4
      rw [if_pos (by decide), if_neg (by rw [e2]; decide), hb, e3]
      simp
      rfl
    · have e1 : rdX op = false := by unfold rdX; simp; omega
      have e4 : (op.toNat == 4) = false := by simp; omega
      rw [if_neg (by rw [e1]; decide), if_neg (by rw [e2]; decide), e3, e4]
      simp
def spUsed : Sp := fun vs H Q _ => ∃ op x y : Int, vs = [.int op, .int x, .int y] ∧ (rdX op = true → isV x = true) ∧ (rdY op = true → isV y = true) ∧ Q (natV (usedN op x y)) H
theorem shl_int {x : Int} (h : 0 ≤ x) : (1 : Int) * 2 ^ x.toNat = ((2 ^ x.toNat : Nat) : Int) := by
  rw [Int.one_mul]; norm_cast
theorem d_used_by_step (T : Txt K mg A) : Def P w K mg base 2 "used_by_step" ["op", "x", "y"] spUsed := by
  refine T.r_used_by_step.def sc_used_by_step (fun vs H Q E h => ?_) (fun f cdv A' outer s H vs Q E hr h => ?_)
  · obtain ⟨op, x, y, rfl, _⟩ := h
    rfl
  · obtain ⟨op, x, y, rfl, hx, hy, k⟩ := h
    refine ⟨_, (pss_cons (ps_set (i := 3) sc_used_by_step.nd rfl (Or.inl rfl) pe_int) (pss_cons (ps_if (pt_val (pe_def (d_reads_x T) hr (pa_cons (pv 0) pa_nil))) (pss_one (ps_set (i := 3) sc_used_by_step.nd rfl (Or.inl rfl) (pe_op op_or (pv 3) (pe_op op_shl pe_int (pv 1))))) pss_nil) (pss_cons (ps_if (pt_val (pe_def (d_reads_y T) hr (pa_cons (pv 0) pa_nil))) (pss_one (ps_set (i := 3) sc_used_by_step.nd rfl (Or.inl rfl) (pe_op op_or (pv 3) (pe_op op_shl pe_int (pv 2))))) pss_nil) (pss_one (ps_ret (pv 3)))))), ?_⟩
    refine ⟨_, rfl, op, rfl, _, rfl, ?_⟩
    refine ite_tail (fun σ' H' => σ' = [some (.int op), some (.int x), some (.int y), some (natV (if rdX op = true then 2 ^ x.toNat else 0))] ∧ H' = H) ?_ ?_ ?_
    · rintro σ' H' ⟨rfl, rfl⟩
      refine ⟨_, rfl, op, rfl, _, rfl, ?_⟩
      refine ite_tail (fun σ' H2 => σ' = [some (.int op), some (.int x), some (.int y), some (natV (usedN op x y))] ∧ H2 = H') ?_ ?_ ?_
      · rintro σ' H2 ⟨rfl, rfl⟩
        exact ⟨_, rfl, k⟩
      · intro c nx hn
        have hv := isV_iff.mp (hy c)
        refine ⟨_, rfl, _, rfl, _, _, rfl, rfl, ⟨by omega, by omega, by decide⟩, _, _, rfl, rfl, hn _ _ ⟨?_, rfl⟩⟩
        have e1 : Builtin.bitOr ((if rdX op = true then 2 ^ x.toNat else 0 : Nat) : Int) (1 * 2 ^ y.toNat) = ((usedN op x y : Nat) : Int) := by
          rw [shl_int hv.1, or_nat]; unfold usedN; rw [if_pos c]
        show [some (V.int op), some (V.int x), some (V.int y), some (V.int (Builtin.bitOr ((if rdX op = true then 2 ^ x.toNat else 0 : Nat) : Int) (1 * 2 ^ y.toNat)))] = _
        rw [e1]; rfl
      · intro c
        refine ⟨?_, rfl⟩
        unfold usedN; rw [if_neg (show ¬ rdY op = true by rw [c]; decide), Nat.or_zero]
    · intro c nx hn
      have hv := isV_iff.mp (hx c)
      refine ⟨_, rfl, _, rfl, _, _, rfl, rfl, ⟨by omega, by omega, by decide⟩, _, _, rfl, rfl, hn _ _ ⟨?_, rfl⟩⟩
      have e1 : Builtin.bitOr ((0 : Nat) : Int) (1 * 2 ^ x.toNat) = ((2 ^ x.toNat : Nat) : Int) := by
        rw [shl_int hv.1, or_nat, Nat.zero_or]
      show [some (V.int op), some (V.int x), some (V.int y), some (V.int (Builtin.bitOr ((0 : Nat) : Int) (1 * 2 ^ x.toNat)))] = _
      rw [e1, if_pos c]; rfl
    · intro c
      refine ⟨?_, rfl⟩
      rw [if_neg (show ¬ rdX op = true by rw [c]; decide)]; rfl
def endN (r : RB) : Nat := if r.fin = 2 ∨ r.fin = 3 then 2 ^ r.var.toNat else 0
theorem testBit_endN {r : RB} (ok : okE r) (v : Nat) : (endN r).testBit v = (absE r).uses v := by
  have hb : ∀ n : Nat, (2 ^ n).testBit v = decide (n = v) := fun n => Nat.testBit_two_pow
  unfold endN absE
  rcases ok with h | h | h | h
  · rw [h.1]; simp [Sc12.End.uses]
  · rw [h.1]; simp [Sc12.End.uses]
  · rw [h.1]; simp [Sc12.End.uses, hb]; rfl
  · rw [h.1]; simp [Sc12.End.uses, hb]; rfl
def spUsedEnd (A : Ad) : Sp := fun vs H Q _ => ∃ (b : Addr × Addr) (r : RB), vs = [.ref b.1] ∧ BlockAt A H b r ∧ okB r ∧ Q (natV (endN r)) H
theorem d_used_by_end (T : Txt K mg A) : Def P w K mg base 1 "used_by_end" ["block"] (spUsedEnd A) := by
  refine T.r_used_by_end.def sc_used_by_end (fun vs H Q E h => ?_) (fun f cdv A' outer s H vs Q E hr h => ?_)
  · obtain ⟨b, r, rfl, _⟩ := h
    rfl
  · obtain ⟨b, r, rfl, ⟨lg, as, BI⟩, ok, k⟩ := h
    obtain ⟨dc, hi⟩ := BI.ins
    refine ⟨_, (pss_cons (ps_if (PW.pt (pw_or (pt_cmpR op_eq (pe_fld (pv 0) rfl) (gl T.c_BRANCH_END) (nomark _)) (pw_or1 (pt_cmpR op_eq (pe_fld (pv 0) rfl) (gl T.c_RET_END) (nomark _))))) (pss_one (ps_ret (pe_op op_shl pe_int (pe_fld (pv 0) rfl)))) pss_nil) (pss_one (ps_ret pe_int))), ?_⟩
    have yes : r.fin = 2 ∨ r.fin = 3 → isV r.var = true := fun h => by
      rcases ok.fin with z | z | z | z
      · rw [z.1] at h; rcases h with h | h <;> cases h
      · rw [z.1] at h; rcases h with h | h <;> cases h
      · exact z.2.1
      · exact z.2.1
    have k2 : r.fin = 2 ∨ r.fin = 3 → Q (.int (1 * 2 ^ r.var.toNat)) H := fun h => by
      refine Qi k ?_
      rw [shl_int (isV_iff.mp (yes h)).1]; unfold endN; rw [if_pos h]
    refine ⟨_, rfl, b.1, _, dc, _, _, rfl, hi, T.cl_Block, T.na_Block_end, lk_end, rfl, _, rfl, ?_⟩
    refine ite2 (fun z => iteT ?_) (fun z => ?_)
    · have z : r.fin = 2 := V.int.inj (of_decide_eq_true z)
      have hv := isV_iff.mp (yes (.inl z))
      exact ⟨_, rfl, b.1, _, dc, _, _, rfl, hi, T.cl_Block, T.na_Block_variable, lk_variable, _, _, rfl, rfl, ⟨by omega, by omega, by decide⟩, k2 (.inl z)⟩
    · have z : r.fin ≠ 2 := fun e => z (decide_eq_true (by rw [e]))
      refine ⟨_, rfl, b.1, _, dc, _, _, rfl, hi, T.cl_Block, T.na_Block_end, lk_end, rfl, _, rfl, ?_⟩
      refine ite2 (fun z2 => ?_) (fun z2 => ?_)
      · have z2 : r.fin = 3 := V.int.inj (of_decide_eq_true z2)
        have hv := isV_iff.mp (yes (.inr z2))
        exact ⟨_, rfl, b.1, _, dc, _, _, rfl, hi, T.cl_Block, T.na_Block_variable, lk_variable, _, _, rfl, rfl, ⟨by omega, by omega, by decide⟩, k2 (.inr z2)⟩
      · have z2 : r.fin ≠ 3 := fun e => z2 (decide_eq_true (by rw [e]))
        refine Qi k ?_
        unfold endN; rw [if_neg (by rintro (h | h); exact z h; exact z2 h)]; rfl
def givenN (st : List (Int × Int × Int × Int)) : Nat := st.foldl (fun g q => g ||| 2 ^ q.2.1.toNat) 0
theorem givenN_snoc (st : List (Int × Int × Int × Int)) (q : Int × Int × Int × Int) : givenN (st ++ [q]) = givenN st ||| 2 ^ q.2.1.toNat := by
  unfold givenN; rw [List.foldl_append]; rfl
theorem testBit_givenN (st : List (Int × Int × Int × Int)) (v : Nat) : (givenN st).testBit v = (st.map absI).any fun i => i.d == v := by
  have h : ∀ (st : List (Int × Int × Int × Int)) (g : Nat), (st.foldl (fun g q => g ||| 2 ^ q.2.1.toNat) g).testBit v = (g.testBit v || (st.map absI).any fun i => i.d == v) := by
    intro st
    induction st with
    | nil => intro g; simp
    | cons q st ih =>
      intro g
      rw [List.foldl_cons, ih, Nat.testBit_or, Nat.testBit_two_pow, List.map_cons, List.any_cons, Bool.or_assoc]
      congr 2
  unfold givenN
  rw [h st 0]; simp
def spGiven (A : Ad) : Sp := fun vs H Q _ => ∃ (b : Addr × Addr) (r : RB), vs = [.ref b.1] ∧ BlockAt A H b r ∧ okB r ∧ Q (natV (givenN r.steps)) H
theorem d_given_by (T : Txt K mg A) : Def P w K mg base 1 "given_by" ["block"] (spGiven A) := by
  refine T.r_given_by.def sc_given_by (fun vs H Q E h => ?_) (fun f cdv A' outer s H vs Q E hr h => ?_)
  · obtain ⟨b, r, rfl, _⟩ := h
    rfl
  · obtain ⟨b, r, rfl, ⟨lg, as, BI⟩, ok, k⟩ := h
    obtain ⟨dc, hi⟩ := BI.ins
    refine ⟨_, (pss_cons (ps_set (i := 1) sc_given_by.nd rfl (Or.inl rfl) pe_int) (pss_cons (ps_for PassesOwn.never rfl (pi_list (pe_fld (pv 0) rfl)) (pg_tup rfl (pgs_cons (pg_name (i := 2) sc_given_by.nd rfl (Or.inl rfl)) (pgs_cons (pg_name (i := 3) sc_given_by.nd rfl (Or.inl rfl)) (pgs_cons (pg_name (i := 4) sc_given_by.nd rfl (Or.inl rfl)) (pgs_cons (pg_name (i := 5) sc_given_by.nd rfl (Or.inl rfl)) pgs_nil))))) (pss_one (ps_set (i := 1) sc_given_by.nd rfl (Or.inl rfl) (pe_op op_or (pv 1) (pe_op op_shl pe_int (pv 3)))))) (pss_one (ps_ret (pv 1))))), ?_⟩
    refine ⟨_, rfl, b.1, _, dc, _, _, rfl, hi, T.cl_Block, T.na_Block_steps, lk_steps, b.2, rfl, ⟨_, SqL.of BI.lst⟩, for_list (K := K) (a := b.2) (xs := as.map V.ref) (fun i σ H' => ∃ o1 o2 o3 o4 : Option V, σ = [some (.ref b.1), some (natV (givenN (r.steps.take i))), o1, o2, o3, o4] ∧ H' = H)
      ⟨none, none, none, none, rfl, rfl⟩ (fun i σ H' _ ⟨_, _, _, _, _, e⟩ => by rw [e]; exact SqL.of BI.lst) ?_ ?_⟩
    · rintro i y σ H' hj ⟨o1, o2, o3, o4, rfl, rfl⟩
      obtain ⟨c, hc, rfl⟩ := map_at hj
      have hlt : i < r.steps.length := by rw [← BI.len]; exact (List.getElem?_eq_some_iff.mp hc).1
      obtain ⟨q, hq⟩ : ∃ q, r.steps[i]? = some q := ⟨_, List.getElem?_eq_getElem hlt⟩
      obtain ⟨c', ec, hct⟩ := BI.at_ i q hq
      rw [hc] at ec; cases ec
      have o := okS_iff (ok.steps q (List.mem_of_getElem? hq))
      have hd := o.pd
      refine ⟨c, _, rfl, SqT.of hct, rfl, _, _, rfl, _, _, rfl, _, _, rfl, _, _, rfl, rfl, ?_⟩
      refine ⟨_, rfl, _, rfl, _, _, rfl, rfl, ⟨by omega, by omega, by decide⟩, _, _, rfl, rfl, ?_⟩
      refine ⟨some (.int q.1), some (.int q.2.1), some (.int q.2.2.1), some (.int q.2.2.2), ?_, rfl⟩
      have e1 : Builtin.bitOr ((givenN (r.steps.take i) : Nat) : Int) (1 * 2 ^ q.2.1.toNat) = ((givenN (r.steps.take (i + 1)) : Nat) : Int) := by
        rw [shl_int hd.1, or_nat, take_snoc hq, givenN_snoc]
      show [some (V.ref b.1), some (V.int (Builtin.bitOr ((givenN (r.steps.take i) : Nat) : Int) (1 * 2 ^ q.2.1.toNat))), _, _, _, _] = _
      rw [e1]; rfl
    · rintro σ H' ⟨o1, o2, o3, o4, rfl, rfl⟩
      rw [List.length_map, BI.len, List.take_length]
      exact ⟨_, rfl, k⟩
end BF
end


section
set_option Elab.async false
set_option linter.all false
set_option maxRecDepth 100000
set_option maxHeartbeats 4000000
namespace BF
open PySem PySem.Spec PyProof.Rows L2
variable {P : Program} {w : World} {K : PySem.W.Frag} {mg : Str → Option Value} {base : Heap} {A : Ad}
def aheadN (live : Nat) (q : Int × Int × Int × Int) : Nat := less live (2 ^ q.2.1.toNat) ||| usedN q.1 q.2.2.1 q.2.2.2
theorem testBit_aheadN {q : Int × Int × Int × Int} (ok : okS q) (live v : Nat) : (aheadN live q).testBit v = ((absI q).uses v || (live.testBit v && (absI q).d != v)) := by
  have o := okS_iff ok
  unfold aheadN
  rw [Nat.testBit_or, testBit_lessB, Nat.testBit_two_pow, testBit_usedN (d := q.2.1) o.po.1 (fun h => (o.py (by unfold rdY at h; have := of_decide_eq_true h; omega)).1), Bool.or_comm]
  congr 2
def spAhead : Sp := fun vs H Q _ => ∃ (live : Nat) (q : Int × Int × Int × Int), vs = [natV live, .int q.1, .int q.2.1, .int q.2.2.1, .int q.2.2.2] ∧ okS q ∧ Q (natV (aheadN live q)) H
theorem rd_x {q : Int × Int × Int × Int} (ok : okS q) (h : rdX q.1 = true) : isV q.2.2.1 = true := by
  have o := ok.1
  unfold isS at o
  simp only [Bool.and_eq_true, Bool.or_eq_true, h, Bool.not_true] at o
  simpa using o.1.2
theorem rd_y {q : Int × Int × Int × Int} (ok : okS q) (h : rdY q.1 = true) : isV q.2.2.2 = true := by
  have o := ok.1
  unfold isS at o
  simp only [Bool.and_eq_true, Bool.or_eq_true, h, Bool.not_true] at o
  simpa using o.2
theorem d_ahead_of_step (T : Txt K mg A) : Def P w K mg base 3 "ahead_of_step" ["live", "op", "d", "x", "y"] spAhead := by
  refine T.r_ahead_of_step.def sc_ahead_of_step (fun vs H Q E h => ?_) (fun f cdv A' outer s H vs Q E hr h => ?_)
  · obtain ⟨live, q, rfl, _⟩ := h
    rfl
  · obtain ⟨live, q, rfl, ok, k⟩ := h
    have hd := (okS_iff ok).pd
    refine ⟨_, (pss_one (ps_ret (pe_op op_or (pe_op op_and (pv 0) (pe_un un_inv (pe_op op_shl pe_int (pv 2)))) (pe_def (d_used_by_step T) hr (pa_cons (pv 1) (pa_cons (pv 3) (pa_cons (pv 4) pa_nil))))))), ?_⟩
    refine ⟨_, rfl, _, rfl, _, _, rfl, rfl, ⟨by omega, by omega, by decide⟩, _, rfl, _, _, rfl, rfl, ?_⟩
    refine ⟨_, rfl, _, rfl, _, rfl, q.1, q.2.2.1, q.2.2.2, rfl, rd_x ok, rd_y ok, _, _, rfl, rfl, ?_⟩
    refine Qi k ?_
    rw [shl_int hd.1, less_nat, or_nat]; rfl
def backN (st : List (Int × Int × Int × Int)) (e i : Nat) : Nat := (st.drop (st.length - i)).foldr (fun q l => aheadN l q) e
theorem backN_zero (st : List (Int × Int × Int × Int)) (e : Nat) : backN st e 0 = e := by
  unfold backN; rw [Nat.sub_zero, List.drop_length]; rfl
theorem backN_succ {st : List (Int × Int × Int × Int)} {e i : Nat} {q : Int × Int × Int × Int} (hi : i < st.length) (h : st[st.length - 1 - i]? = some q) : backN st e (i + 1) = aheadN (backN st e i) q := by
  unfold backN
  have h1 : st.length - (i + 1) < st.length := by omega
  obtain ⟨h2, h3⟩ := List.getElem?_eq_some_iff.mp h
  have e1 : st.length - (i + 1) = st.length - 1 - i := by omega
  have e2 : st.length - (i + 1) + 1 = st.length - i := by omega
  rw [List.drop_eq_getElem_cons h1, e2, List.foldr_cons]
  congr 1
  rw [← h3]
  congr 1
theorem testBit_backN {st : List (Int × Int × Int × Int)} (ok : ∀ q ∈ st, okS q) (e i v : Nat) : (backN st e i).testBit v = Sc12.through v ((st.drop (st.length - i)).map absI) (e.testBit v) := by
  have h : ∀ l : List (Int × Int × Int × Int), (∀ q ∈ l, okS q) → (l.foldr (fun q l => aheadN l q) e).testBit v = Sc12.through v (l.map absI) (e.testBit v) := by
    intro l
    induction l with
    | nil => intro _; rfl
    | cons q l ih =>
      intro o
      rw [List.foldr_cons, testBit_aheadN (o q (List.mem_cons_self ..)), ih (fun q' m => o q' (List.mem_cons_of_mem _ m)), List.map_cons, through_cons]
  exact h _ fun q m => ok q (List.mem_of_mem_drop m)
def spFirst (A : Ad) : Sp := fun vs H Q _ => ∃ (b : Addr × Addr) (r : RB), vs = [.ref b.1] ∧ BlockAt A H b r ∧ okB r ∧ ∀ n : Nat, (∀ v, n.testBit v = Sc12.through v (r.steps.map absI) ((absE r).uses v)) → Q (natV n) H
theorem d_used_first (T : Txt K mg A) : Def P w K mg base 4 "used_first" ["block"] (spFirst A) := by
  refine T.r_used_first.def sc_used_first (fun vs H Q E h => ?_) (fun f cdv A' outer s H vs Q E hr h => ?_)
  · obtain ⟨b, r, rfl, _⟩ := h
    rfl
  · obtain ⟨b, r, rfl, BA, ok, k⟩ := h
    have BA2 := BA
    obtain ⟨lg, as, BI⟩ := BA2
    obtain ⟨dc, hi⟩ := BI.ins
    have hla : (as.map V.ref).length = r.steps.length := by rw [List.length_map, BI.len]
    refine ⟨_, (pss_cons (ps_set (i := 1) sc_used_first.nd rfl (Or.inl rfl) (pe_def (d_used_by_end T) hr (pa_cons (pv 0) pa_nil))) (pss_cons (ps_for PassesOwn.never rfl (pi_reversed rfl T.b_reversed (pa_cons (pe_fld (pv 0) rfl) pa_nil)) (pg_tup rfl (pgs_cons (pg_name (i := 2) sc_used_first.nd rfl (Or.inl rfl)) (pgs_cons (pg_name (i := 3) sc_used_first.nd rfl (Or.inl rfl)) (pgs_cons (pg_name (i := 4) sc_used_first.nd rfl (Or.inl rfl)) (pgs_cons (pg_name (i := 5) sc_used_first.nd rfl (Or.inl rfl)) pgs_nil))))) (pss_one (ps_set (i := 1) sc_used_first.nd rfl (Or.inl rfl) (pe_def (d_ahead_of_step T) hr (pa_cons (pv 1) (pa_cons (pv 2) (pa_cons (pv 3) (pa_cons (pv 4) (pa_cons (pv 5) pa_nil))))))))) (pss_one (ps_ret (pv 1))))), ?_⟩
    refine ⟨_, rfl, b, r, rfl, BA, ok, ?_⟩
    refine ⟨_, rfl, b.1, _, dc, _, _, rfl, hi, T.cl_Block, T.na_Block_steps, lk_steps, b.2, _, rfl, SqL.of BI.lst, for_rev (K := K) (a := b.2) (xs := as.map V.ref) (fun i σ H' => ∃ o1 o2 o3 o4 : Option V, σ = [some (.ref b.1), some (natV (backN r.steps (endN r) i)), o1, o2, o3, o4] ∧ H' = H)
      ⟨none, none, none, none, by rw [backN_zero]; rfl, rfl⟩ (fun i σ H' _ ⟨_, _, _, _, _, e⟩ => by rw [e]; exact SqL.of BI.lst) ?_ ?_⟩
    · rintro i y σ H' hlt hj ⟨o1, o2, o3, o4, rfl, rfl⟩
      rw [hla] at hj hlt
      obtain ⟨c, hc, rfl⟩ := map_at hj
      obtain ⟨q, hq⟩ : ∃ q, r.steps[r.steps.length - 1 - i]? = some q := ⟨_, List.getElem?_eq_getElem (by omega)⟩
      obtain ⟨c', ec, hct⟩ := BI.at_ _ q hq
      rw [hc] at ec; cases ec
      have okq := ok.steps q (List.mem_of_getElem? hq)
      refine ⟨c, _, rfl, SqT.of hct, rfl, _, _, rfl, _, _, rfl, _, _, rfl, _, _, rfl, rfl, ?_⟩
      refine ⟨_, rfl, _, rfl, _, rfl, _, rfl, _, rfl, backN r.steps (endN r) i, q, rfl, okq, ?_⟩
      exact ⟨some (.int q.1), some (.int q.2.1), some (.int q.2.2.1), some (.int q.2.2.2), by rw [backN_succ hlt hq]; rfl, rfl⟩
    · rintro σ H' ⟨o1, o2, o3, o4, rfl, rfl⟩
      refine ⟨_, rfl, k _ fun v => ?_⟩
      rw [hla, testBit_backN ok.steps, Nat.sub_self, List.drop_zero, testBit_endN ok.fin]
def anyN (us gs : List Nat) : Nat := gs.foldl (fun f c => f ||| us.getD c 0) 0
theorem anyN_snoc (us gs : List Nat) (c : Nat) : anyN us (gs ++ [c]) = anyN us gs ||| us.getD c 0 := by
  unfold anyN; rw [List.foldl_append]; rfl
theorem testBit_anyN (us gs : List Nat) (v : Nat) : (anyN us gs).testBit v = true ↔ ∃ c ∈ gs, (us.getD c 0).testBit v = true := by
  have h : ∀ (gs : List Nat) (f : Nat), (gs.foldl (fun f c => f ||| us.getD c 0) f).testBit v = true ↔ f.testBit v = true ∨ ∃ c ∈ gs, (us.getD c 0).testBit v = true := by
    intro gs
    induction gs with
    | nil => intro f; simp
    | cons c gs ih =>
      intro f
      rw [List.foldl_cons, ih, testBit_orI, or_assoc]
      simp
  unfold anyN
  rw [h gs 0]; simp
def spAny : Sp := fun vs H Q _ => ∃ (iq gq : Addr) (us gs : List Nat), vs = [.ref iq, .ref gq] ∧ H iq = some (.lst (us.map natV)) ∧ H gq = some (.lst (gs.map natV)) ∧ (∀ c ∈ gs, c < us.length) ∧ Q (natV (anyN us gs)) H
theorem nat_at {us : List Nat} {c : Nat} (h : c < us.length) : atI (us.map natV) ((c : Nat) : Int) = some (natV (us.getD c 0)) :=
  at_of (j := c) rfl (by rw [List.getElem?_map, List.getD_eq_getElem?_getD, List.getElem?_eq_getElem h]; rfl)
theorem d_in_any (T : Txt K mg A) : Def P w K mg base 1 "in_any" ["ins", "goals"] spAny := by
  refine T.r_in_any.def sc_in_any (fun vs H Q E h => ?_) (fun f cdv A' outer s H vs Q E hr h => ?_)
  · obtain ⟨iq, gq, us, gs, rfl, _⟩ := h
    rfl
  · obtain ⟨iq, gq, us, gs, rfl, hI, hG, hc, k⟩ := h
    refine ⟨_, (pss_cons (ps_set (i := 2) sc_in_any.nd rfl (Or.inl rfl) pe_int) (pss_cons (ps_for PassesOwn.never rfl (pi_list (pv 1)) (pg_name (i := 3) sc_in_any.nd rfl (Or.inl rfl)) (pss_one (ps_set (i := 2) sc_in_any.nd rfl (Or.inl rfl) (pe_op op_or (pv 2) (pe_ix ix_list (pv 0) (pv 3) (fun _ _ => rfl)))))) (pss_one (ps_ret (pv 2))))), ?_⟩
    refine ⟨_, rfl, gq, rfl, ⟨_, SqL.of hG⟩, for_list (K := K) (a := gq) (xs := gs.map natV) (fun i σ H' => ∃ o1 : Option V, σ = [some (.ref iq), some (.ref gq), some (natV (anyN us (gs.take i))), o1] ∧ H' = H)
      ⟨none, rfl, rfl⟩ (fun i σ H' _ ⟨_, _, e⟩ => by rw [e]; exact SqL.of hG) ?_ ?_⟩
    · rintro i y σ H' hj ⟨o1, rfl, rfl⟩
      obtain ⟨c, ec, rfl⟩ := map_at hj
      refine ⟨_, rfl, _, rfl, _, rfl, iq, _, _, _, rfl, rfl, SqL.of hI, nat_at (hc c (List.mem_of_getElem? ec)), _, _, rfl, rfl, ?_⟩
      refine ⟨some (natV c), ?_, rfl⟩
      rw [take_snoc ec, anyN_snoc]
      show [some (V.ref iq), some (V.ref gq), some (V.int (Builtin.bitOr ((anyN us (gs.take i) : Nat) : Int) ((us.getD c 0 : Nat) : Int))), _] = _
      rw [or_nat]; rfl
    · rintro σ H' ⟨o1, rfl, rfl⟩
      rw [List.length_map, List.take_length]
      exact ⟨_, rfl, k⟩
end BF
end


section
set_option Elab.async false
set_option linter.all false
set_option maxRecDepth 100000
set_option maxHeartbeats 4000000
namespace BF
open PySem PySem.Spec PyProof.Rows L2
variable {P : Program} {w : World} {K : PySem.W.Frag} {mg : Str → Option Value} {base : Heap} {A : Ad}
theorem countP_le' {p q : Nat → Bool} : ∀ (l : List Nat), (∀ x ∈ l, p x = true → q x = true) → l.countP p ≤ l.countP q := fun l h => List.countP_mono_left h
theorem countP_lt' {p q : Nat → Bool} : ∀ (l : List Nat), (∀ x ∈ l, p x = true → q x = true) → ∀ x ∈ l, p x = false → q x = true → l.countP p < l.countP q
  | [], _, x, m, _, _ => by simp at m
  | a :: l, h, x, m, h1, h2 => by
    have hl : ∀ x ∈ l, p x = true → q x = true := fun y my => h y (List.mem_cons_of_mem _ my)
    rw [List.countP_cons, List.countP_cons]
    rcases List.mem_cons.mp m with e | m
    · subst e
      have := countP_le' l hl
      simp [h1, h2]; omega
    · have ih := countP_lt' l hl x m h1 h2
      have ha := h a (List.mem_cons_self ..)
      by_cases e : p a = true
      · simp [e, ha e]; omega
      · by_cases e2 : q a = true
        · simp [e, e2]; omega
        · simp [e, e2]; omega
theorem card_lt {m n x : Nat} (h : ∀ x, m.testBit x = true → n.testBit x = true) (hx : x < 64) (h1 : m.testBit x = false) (h2 : n.testBit x = true) : card m < card n :=
  countP_lt' (List.range 64) (fun y _ => h y) x (List.mem_range.mpr hx) h1 h2
def tot (us : List Nat) : Nat := (us.map card).sum
theorem tot_le : ∀ us : List Nat, tot us ≤ 64 * us.length
  | [] => Nat.le_refl _
  | a :: us => by
    have h1 := tot_le us
    have h2 := card_le a
    unfold tot at h1 ⊢
    simp
    omega
theorem tot_set : ∀ (us : List Nat) (i n : Nat), i < us.length → tot (us.set i n) + card (us.getD i 0) = tot us + card n
  | [], i, n, h => by simp at h
  | a :: us, 0, n, h => by
    show (card n + (us.map card).sum) + card a = (card a + (us.map card).sum) + card n
    omega
  | a :: us, i + 1, n, h => by
    have ih := tot_set us i n (by simpa using h)
    unfold tot at ih ⊢
    show (card a + ((us.set i n).map card).sum) + card (us.getD i 0) = (card a + (us.map card).sum) + card n
    omega
theorem getD_set_self {us : List Nat} {i n : Nat} (h : i < us.length) : (us.set i n).getD i 0 = n := by
  rw [List.getD_eq_getElem?_getD, List.getElem?_set_self h]; rfl
theorem getD_set_ne {us : List Nat} {i j n : Nat} (h : i ≠ j) : (us.set i n).getD j 0 = us.getD j 0 := by
  rw [List.getD_eq_getElem?_getD, List.getElem?_set_ne h, ← List.getD_eq_getElem?_getD]
theorem getD_snoc {us : List Nat} {n : Nat} : (us ++ [n]).getD us.length 0 = n := by
  rw [List.getD_eq_getElem?_getD, List.getElem?_append_right (Nat.le_refl _), Nat.sub_self]; rfl
theorem getD_snoc_lt {us : List Nat} {n j : Nat} (h : j < us.length) : (us ++ [n]).getD j 0 = us.getD j 0 := by
  rw [List.getD_eq_getElem?_getD, List.getElem?_append_left h, ← List.getD_eq_getElem?_getD]
theorem bit_differs {m n : Nat} (h : m ≠ n) : ∃ x, m.testBit x ≠ n.testBit x := by
  refine Classical.byContradiction fun z => h (Nat.eq_of_testBit_eq fun i => ?_)
  exact Classical.byContradiction fun q => z ⟨i, q⟩
theorem through_uses {v : Nat} : ∀ {l : List Sc12.Ins} {r : Bool}, Sc12.through v l r = true → (∃ i ∈ l, i.uses v = true) ∨ r = true
  | [], r, h => .inr h
  | i :: l, r, h => by
    rw [through_cons, Bool.or_eq_true, Bool.and_eq_true] at h
    rcases h with h | h
    · exact .inl ⟨i, List.mem_cons_self .., h⟩
    · rcases through_uses h.1 with ⟨j, m, q⟩ | q
      · exact .inl ⟨j, List.mem_cons_of_mem _ m, q⟩
      · exact .inr q
theorem uses_lt {q : Int × Int × Int × Int} (ok : okS q) {v : Nat} (h : (absI q).uses v = true) : v < 32 := by
  have o := okS_iff ok
  unfold Sc12.Ins.uses absI at h
  simp only [Bool.or_eq_true, Bool.and_eq_true, decide_eq_true_iff, beq_iff_eq] at h
  have p0 := o.po
  rcases h with ⟨h1, h2⟩ | ⟨h1, h2⟩
  · have hx := o.px (by omega)
    have hy := o.py (by omega)
    rcases h2 with h2 | h2 <;> omega
  · have hx := o.px (by omega)
    omega
theorem endUses_lt {r : RB} (ok : okE r) {v : Nat} (h : (absE r).uses v = true) : v < 32 := by
  rw [← testBit_endN ok] at h
  unfold endN at h
  split at h
  · rename_i hf
    rw [Nat.testBit_two_pow, decide_eq_true_iff] at h
    rcases ok with z | z | z | z
    · rw [z.1] at hf; rcases hf with hf | hf <;> cases hf
    · rw [z.1] at hf; rcases hf with hf | hf <;> cases hf
    · have := isV_iff.mp z.2.1; omega
    · have := isV_iff.mp z.2.1; omega
  · simp at h
theorem live_lt {rs : List RB} (wf : Wf rs) {v b : Nat} (h : Live (abs rs) v b) : v < 32 := by
  induction h with
  | @here b h1 h2 =>
    rw [abs_len] at h1
    obtain ⟨r, hr⟩ : ∃ r, rs[b]? = some r := ⟨_, List.getElem?_eq_getElem h1⟩
    have ok := wf.at_ r (List.mem_of_getElem? hr)
    rw [opsOf_abs hr, endOf_abs hr] at h2
    rcases through_uses h2 with ⟨i, m, q⟩ | q
    · obtain ⟨s, ms, rfl⟩ := List.mem_map.mp m
      exact uses_lt (ok.steps s ms) q
    · exact endUses_lt ok.fin q
  | on _ _ _ _ ih => exact ih
theorem through_gives (v : Nat) : ∀ (l : List Sc12.Ins) (r : Bool), Sc12.through v l r = (Sc12.through v l false || (r && !(l.any fun i => i.d == v)))
  | [], r => by simp [Sc12.through]
  | i :: l, r => by
    rw [through_cons, through_cons, through_gives v l r, List.any_cons]
    have : (i.d != v) = !(i.d == v) := rfl
    rw [this]
    cases i.uses v <;> cases Sc12.through v l false <;> cases r <;> cases (i.d == v) <;> cases (l.any fun i => i.d == v) <;> rfl
structure LiveInv (s : Sc12.State) (us : List Nat) : Prop where
  len : us.length = s.length
  sub : ∀ b v, b < s.length → (us.getD b 0).testBit v = true → Live s v b
  base : ∀ b v, b < s.length → Sc12.through v (Sc12.opsOf s b) ((Sc12.endOf s b).uses v) = true → (us.getD b 0).testBit v = true
def ClosedAt (s : Sc12.State) (us : List Nat) (b : Nat) : Prop := ∀ v c, c ∈ Sc12.behind s b → (us.getD c 0).testBit v = true → Sc12.gives s b v = false → (us.getD b 0).testBit v = true
def InsOf (s : Sc12.State) (us : List Nat) : Prop := us.length = s.length ∧ ∀ b, b < s.length → ∀ v, (us.getD b 0).testBit v = true ↔ Live s v b
section
variable {s : Sc12.State} {us : List Nat} {b g : Nat}
def turnN (s : Sc12.State) (us : List Nat) (b g : Nat) : Nat := us.getD b 0 ||| less (anyN us (Sc12.behind s b)) g
theorem turn_bit (hg : ∀ v, g.testBit v = Sc12.gives s b v) (v : Nat) : (turnN s us b g).testBit v = true ↔ (us.getD b 0).testBit v = true ∨ ((∃ c ∈ Sc12.behind s b, (us.getD c 0).testBit v = true) ∧ Sc12.gives s b v = false) := by
  unfold turnN
  rw [testBit_orI, testBit_less, testBit_anyN, hg]
theorem LiveInv.turn (L : LiveInv s us) (hb : b < s.length) (hg : ∀ v, g.testBit v = Sc12.gives s b v) : LiveInv s (us.set b (turnN s us b g)) := by
  have hl : b < us.length := by rw [L.len]; exact hb
  refine ⟨by rw [List.length_set]; exact L.len, fun c v hc h => ?_, fun c v hc h => ?_⟩
  · by_cases e : b = c
    · subst e
      rw [getD_set_self hl, turn_bit hg] at h
      rcases h with h | ⟨⟨d, md, hd⟩, h2⟩
      · exact L.sub b v hb h
      · refine .on hb ?_ md (L.sub d v (behind_lt md) hd)
        rw [through_gives]
        unfold Sc12.gives at h2
        rw [h2]; simp
    · rw [getD_set_ne e] at h
      exact L.sub c v hc h
  · by_cases e : b = c
    · subst e
      rw [getD_set_self hl, turn_bit hg]
      exact .inl (L.base b v hb h)
    · rw [getD_set_ne e]
      exact L.base c v hc h
theorem closed_of_turn (hg : ∀ v, g.testBit v = Sc12.gives s b v) (h : turnN s us b g = us.getD b 0) : ClosedAt s us b := fun v c hc h1 h2 => by
  rw [← h, turn_bit hg]
  exact .inr ⟨⟨c, hc, h1⟩, h2⟩
theorem LiveInv.done (L : LiveInv s us) (h : ∀ b, b < s.length → ClosedAt s us b) : InsOf s us := by
  refine ⟨L.len, fun b hb v => ⟨L.sub b v hb, fun q => ?_⟩⟩
  clear hb
  induction q with
  | here h1 h2 => exact L.base _ v h1 h2
  | @on b c h1 h2 h3 _ ih =>
    rw [through_gives] at h2
    simp only [Bool.true_and, Bool.or_eq_true, Bool.not_eq_true'] at h2
    rcases h2 with h2 | h2
    · exact L.base b v h1 (through_mono (fun z => by cases z) h2)
    · exact h b h1 v c h3 ih h2
theorem LiveInv.grow {rs : List RB} {us : List Nat} (wf : Wf rs) (L : LiveInv (abs rs) us) (hb : b < (abs rs).length) (hg : ∀ v, g.testBit v = Sc12.gives (abs rs) b v) (h : turnN (abs rs) us b g ≠ us.getD b 0) : tot us < tot (us.set b (turnN (abs rs) us b g)) := by
  have hl : b < us.length := by rw [L.len]; exact hb
  have up : ∀ x, (us.getD b 0).testBit x = true → (turnN (abs rs) us b g).testBit x = true := fun x hx => (turn_bit hg x).mpr (.inl hx)
  obtain ⟨x, hx⟩ := bit_differs h
  have h1 : (us.getD b 0).testBit x = false := by
    cases e : (us.getD b 0).testBit x with
    | false => rfl
    | true => exact absurd ((up x e).trans e.symm) hx
  have h2 : (turnN (abs rs) us b g).testBit x = true := by
    cases e : (turnN (abs rs) us b g).testBit x with
    | true => rfl
    | false => exact absurd (e.trans h1.symm) hx
  have lv : Live (abs rs) x b := (L.turn hb hg).sub b x hb (by rw [getD_set_self hl]; exact h2)
  have := live_lt wf lv
  have c := card_lt up (by omega) h1 h2
  have t := tot_set us b (turnN (abs rs) us b g) hl
  omega
end
theorem BodyIs.blk {H : Hp} {p lb : Addr} {bs : List (Addr × Addr)} {rs : List RB} (B : BodyIs A H p lb bs rs) {i : Nat} {c : Addr × Addr} (hc : bs[i]? = some c) : ∃ r, rs[i]? = some r ∧ BlockAt A H c r := by
  have hi : i < rs.length := by rw [← B.len]; exact (List.getElem?_eq_some_iff.mp hc).1
  obtain ⟨c', e1, e2⟩ := B.at_ i _ (List.getElem?_eq_getElem hi)
  rw [hc] at e1; cases e1
  exact ⟨_, List.getElem?_eq_getElem hi, e2⟩
end BF
end


section
set_option Elab.async false
set_option linter.all false
set_option maxRecDepth 100000
set_option maxHeartbeats 4000000
namespace BF
open PySem PySem.Spec PyProof.Rows L2
variable {P : Program} {w : World} {K : PySem.W.Frag} {mg : Str → Option Value} {base : Heap} {A : Ad}
def notV (g : Nat) : V := .int (Builtin.bitNot (g : Int))
theorem not_at {gs : List Nat} {c : Nat} (h : c < gs.length) : atI (gs.map notV) ((c : Nat) : Int) = some (notV (gs.getD c 0)) :=
  at_of (j := c) rfl (by rw [List.getElem?_map, List.getD_eq_getElem?_getD, List.getElem?_eq_getElem h]; rfl)
def spIns (A : Ad) : Sp := fun vs H Q _ => ∃ (p : Addr) (rs : List RB) (F : List Addr), vs = [.ref p] ∧ BodyAt A H p rs F ∧ Wf rs ∧ ∀ (H' : Hp) (q : Addr) (us : List Nat), Same H H' → H q = none → H' q = some (.lst (us.map natV)) → InsOf (abs rs) us → Q (.ref q) H'
theorem d_in_each (T : Txt K mg A) : Def P w K mg base 5 "in_each" ["body"] (spIns A) := by
  refine T.r_in_each.def sc_in_each (fun vs H Q E h => ?_) (fun f cdv A' outer s H vs Q E hr h => ?_)
  · obtain ⟨p, rs, F, rfl, _⟩ := h
    rfl
  · obtain ⟨p, rs, F, rfl, BA, wf, k⟩ := h
    have h64 := wf.len
    have hsl := abs_len rs
    have hline : (64 : Nat) < sizeLine := by decide
    refine ⟨_, (pss_cons (ps_set (i := 1) sc_in_each.nd rfl (Or.inl rfl) (pe_def (d_behind_each T) hr (pa_cons (pv 0) pa_nil))) (pss_cons (ps_setLc (i := 2) (own := [("block", 7)]) rfl sc_in_each.nd rfl rfl (sw_true rfl rfl rfl (by decide +kernel)) (pi_list (pe_fld (pv 0) rfl)) (blkOk_by (N := ["body", "leads", "ins", "passed", "grown", "b", "live", "block"]) (sc := defScope s_in_each) (by decide +kernel)) (fun _ _ _ _ _ => (pg_name (i := 7) sc_in_each.nd rfl (Or.inl rfl))) (fun _ _ _ _ _ => pts_nil) (fun _ _ _ _ _ => (pe_def (d_used_first T) hr (pa_cons (pv 7) pa_nil)))) (pss_cons (ps_setLc (i := 3) (own := [("block", 7)]) rfl sc_in_each.nd rfl rfl (sw_true rfl rfl rfl (by decide +kernel)) (pi_list (pe_fld (pv 0) rfl)) (blkOk_by (N := ["body", "leads", "ins", "passed", "grown", "b", "live", "block"]) (sc := defScope s_in_each) (by decide +kernel)) (fun _ _ _ _ _ => (pg_name (i := 7) sc_in_each.nd rfl (Or.inl rfl))) (fun _ _ _ _ _ => pts_nil) (fun _ _ _ _ _ => (pe_un un_inv (pe_def (d_given_by T) hr (pa_cons (pv 7) pa_nil))))) (pss_cons (ps_set (i := 4) sc_in_each.nd rfl (Or.inl rfl) pe_bl) (pss_cons (ps_while PassesOwn.never (pt_val (pv 4)) (pss_cons (ps_set (i := 4) sc_in_each.nd rfl (Or.inl rfl) pe_bl) (pss_one (ps_for PassesOwn.never rfl (pi_range3 rfl T.b_range (pa_cons (pe_op op_sub (pe_callB call_len_seq (by rfl) T.b_len bt_len (pa_cons (pv 1) pa_nil)) pe_int) (pa_cons (pe_un un_neg pe_int) (pa_cons (pe_un un_neg pe_int) pa_nil)))) (pg_name (i := 5) sc_in_each.nd rfl (Or.inl rfl)) (pss_cons (ps_set (i := 6) sc_in_each.nd rfl (Or.inl rfl) (pe_op op_or (pe_ix ix_list (pv 2) (pv 5) (fun _ _ => rfl)) (pe_op op_and (pe_def (d_in_any T) hr (pa_cons (pv 2) (pa_cons (pe_ix ix_list (pv 1) (pv 5) (fun _ _ => rfl)) pa_nil))) (pe_ix ix_list (pv 3) (pv 5) (fun _ _ => rfl))))) (pss_one (ps_if (pt_cmpR op_ne (pv 6) (pe_ix ix_list (pv 2) (pv 5) (fun _ _ => rfl)) (nomark _)) (pss_cons (ps_asg (pv 6) (pg_sub (pv 2) (pv 5) set_list)) (pss_one (ps_set (i := 4) sc_in_each.nd rfl (Or.inl rfl) pe_bl))) pss_nil))))))) (pss_one (ps_ret (pv 2)))))))), ?_⟩
    refine ⟨_, rfl, p, rs, F, rfl, BA, wf, fun H1 lq s1 hlq hL => ?_⟩
    have BA1 := BA.same s1
    have BA2 := BA1
    obtain ⟨lb, bs, eF, B⟩ := BA2
    obtain ⟨dx, hp⟩ := B.ins
    have hbl : (bs.map fun b => V.ref b.1).length = rs.length := by rw [List.length_map, B.len]
    refine ⟨_, rfl, p, _, _, _, _, rfl, hp, T.cl_Body, T.na_Body_blocks, lk_blocks, lb, rfl, ⟨_, SqL.of B.lst⟩, fun D hD => ?_⟩
    refine lc_list (K := K) (a := lb) (xs := bs.map fun b => V.ref b.1) (fun i H' => ∃ us : List Nat, H' D = some (.lst (us.map natV)) ∧ us.length = i ∧ Same H1 H' ∧ ∀ b v, b < i → (us.getD b 0).testBit v = Sc12.through v (Sc12.opsOf (abs rs) b) ((Sc12.endOf (abs rs) b).uses v))
      ⟨[], upd_same, rfl, fun b o e => by rw [upd_ne (ne_of_none e hD)]; exact e, fun j x hj => absurd hj (Nat.not_lt_zero _)⟩ (fun i H' _ ⟨_, _, _, sm, _⟩ => SqL.of (sm _ _ B.lst)) ?_ ?_
    · rintro i y H' hj ⟨us, hd, hl, sm, hat⟩
      obtain ⟨c, hc, rfl⟩ := map_at hj
      obtain ⟨r, hr, hB⟩ := B.blk hc
      have hi : i < rs.length := (List.getElem?_eq_some_iff.mp hr).1
      refine ⟨rfl, tYes_of ?_⟩
      refine ⟨_, rfl, c, r, rfl, hB.same sm, wf.at_ r (List.mem_of_getElem? hr), fun n hn => ?_⟩
      refine ⟨_, hd, by rw [List.length_map, hl]; omega, us ++ [n], by rw [upd_same, List.map_append]; rfl, by simp [hl], fun b o e => by rw [upd_ne (ne_of_none e hD)]; exact sm _ _ e, fun b v hb => ?_⟩
      by_cases e : b = i
      · subst e
        have : (us ++ [n]).getD b 0 = n := by rw [← hl]; exact getD_snoc
        rw [this, hn v, opsOf_abs hr, endOf_abs hr]
      · rw [getD_snoc_lt (by omega)]
        exact hat b v (by omega)
    rintro H2 ⟨us0, hd2, hl2, sm2, hat2⟩
    rw [hbl] at hl2
    refine ⟨_, rfl, p, _, _, _, _, rfl, sm2 _ _ hp, T.cl_Body, T.na_Body_blocks, lk_blocks, lb, rfl, ⟨_, SqL.of (sm2 _ _ B.lst)⟩, fun D2 hD2 => ?_⟩
    have nD : D ≠ D2 := ne_of_none hd2 hD2
    refine lc_list (K := K) (a := lb) (xs := bs.map fun b => V.ref b.1) (fun i H' => ∃ gs : List Nat, H' D2 = some (.lst (gs.map notV)) ∧ gs.length = i ∧ Same H2 H' ∧ ∀ b v, b < i → (gs.getD b 0).testBit v = Sc12.gives (abs rs) b v)
      ⟨[], upd_same, rfl, fun b o e => by rw [upd_ne (ne_of_none e hD2)]; exact e, fun j x hj => absurd hj (Nat.not_lt_zero _)⟩ (fun i H' _ ⟨_, _, _, sm, _⟩ => SqL.of (sm _ _ (sm2 _ _ B.lst))) ?_ ?_
    · rintro i y H' hj ⟨gs, hd, hl, sm, hat⟩
      obtain ⟨c, hc, rfl⟩ := map_at hj
      obtain ⟨r, hr, hB⟩ := B.blk hc
      have hi : i < rs.length := (List.getElem?_eq_some_iff.mp hr).1
      refine ⟨rfl, tYes_of ?_⟩
      refine ⟨_, rfl, c, r, rfl, (hB.same sm2).same sm, wf.at_ r (List.mem_of_getElem? hr), _, rfl, ?_⟩
      refine ⟨_, hd, by rw [List.length_map, hl]; omega, gs ++ [givenN r.steps], by rw [upd_same, List.map_append]; rfl, by simp [hl], fun b o e => by rw [upd_ne (ne_of_none e hD2)]; exact sm _ _ e, fun b v hb => ?_⟩
      by_cases e : b = i
      · subst e
        have : (gs ++ [givenN r.steps]).getD b 0 = givenN r.steps := by rw [← hl]; exact getD_snoc
        rw [this, testBit_givenN]
        unfold Sc12.gives
        rw [opsOf_abs hr]
      · rw [getD_snoc_lt (by omega)]
        exact hat b v (by omega)
    rintro H3 ⟨gs, hd3, hl3, sm3, hat3⟩
    rw [hbl] at hl3
    have L0 : LiveInv (abs rs) us0 := ⟨by rw [hl2, hsl], fun b v hb h => .here hb (by rw [← hat2 b v (by rw [hbl, ← hsl]; exact hb)]; exact h), fun b v hb h => by rw [hat2 b v (by rw [hbl, ← hsl]; exact hb)]; exact h⟩
    have hg : ∀ b, b < rs.length → ∀ v, (gs.getD b 0).testBit v = Sc12.gives (abs rs) b v := fun b hb v => hat3 b v (by rw [hbl]; exact hb)
    have s13 : Same H1 H3 := sm2.trans sm3
    refine ⟨fun m σ H' => ∃ (us : List Nat) (g : Bool) (o1 o2 : Option V), σ = [some (.ref p), some (.ref lq), some (.ref D), some (.ref D2), some (.bl g), o1, o2, none] ∧ H' D = some (.lst (us.map natV)) ∧ H' D2 = some (.lst (gs.map notV)) ∧ Same H1 H' ∧ LiveInv (abs rs) us ∧ (g = false → ∀ b, b < rs.length → ClosedAt (abs rs) us b) ∧ m = 2 * (4096 - tot us) + (if g = true then 1 else 0),
      ⟨_, us0, true, none, none, rfl, sm3 _ _ hd2, hd3, s13, L0, (fun z => by cases z), rfl⟩, ?_⟩
    rintro m σ H' ⟨us, g, o1, o2, rfl, hD', hD2', sm, L, cl, rfl⟩
    refine ⟨_, rfl, _, rfl, ?_⟩
    cases g with
    | false => exact iteF ⟨_, rfl, k H' D us (s1.trans sm) (s1.free hD) hD' (L.done fun b hb => cl rfl b (by rw [← hsl]; exact hb))⟩
    | true =>
      refine iteT ⟨fun σ' H'' => ∃ m', m' < 2 * (4096 - tot us) + (if true = true then 1 else 0) ∧ _, fun _ _ h => h, ?_⟩
      obtain ⟨as, hq1, hlen, hatL⟩ := leads_len (hL.same sm)
      have hn : (as.map V.ref).length = rs.length := by rw [List.length_map, hlen, hsl]
      have hRg : RgC ((rs.length : Int) - 1) (-1) (-1) rs.length := by
        have := RgC.neg (i := (rs.length : Int) - 1) (j := -1) (by omega) (by omega) (by omega) (by omega)
        have e : ((rs.length : Int) - 1 - -1).toNat = rs.length := by omega
        rw [e] at this
        exact this
      refine ⟨_, rfl, lq, _, rfl, .inl (SqL.of hq1), _, _, rfl, rfl, _, rfl, _, rfl, ((rs.length : Int) - 1), -1, -1, rs.length, (by rw [hn]), hRg, ?_⟩
      refine for_rangeC (lo := (rs.length : Int) - 1) (c := -1) (n := rs.length) (fun i σ H'' => ∃ (us' : List Nat) (g : Bool) (o1 o2 : Option V), σ = [some (.ref p), some (.ref lq), some (.ref D), some (.ref D2), some (.bl g), o1, o2, none] ∧ H'' D = some (.lst (us'.map natV)) ∧ H'' D2 = some (.lst (gs.map notV)) ∧ Same H1 H'' ∧ LiveInv (abs rs) us' ∧ (g = false → us' = us ∧ ∀ b, rs.length - i ≤ b → b < rs.length → ClosedAt (abs rs) us b) ∧ (g = true → tot us < tot us'))
        ⟨us, false, o1, o2, rfl, hD', hD2', sm, L, (fun _ => ⟨rfl, fun b h1 h2 => by omega⟩), fun z => by cases z⟩ ?_ ?_
      · rintro i σ H'' hi ⟨us', g, o1, o2, rfl, hDD, hDD2, sm', L', c1, c2⟩
        have eb : (rs.length : Int) - 1 + ((i : Nat) : Int) * -1 = ((rs.length - 1 - i : Nat) : Int) := by omega
        rw [eb]
        generalize hb : rs.length - 1 - i = b
        have hbl : b < rs.length := by omega
        have hbs : b < (abs rs).length := by rw [hsl]; exact hbl
        obtain ⟨as', hq2, hlen2, hatL2⟩ := leads_len (hL.same sm')
        obtain ⟨c, ec, hc⟩ := hatL2 b hbs
        have hu : b < us'.length := by rw [L'.len]; exact hbs
        refine ⟨_, rfl, _, rfl, D, _, _, _, rfl, rfl, SqL.of hDD, nat_at hu, ?_⟩
        refine ⟨_, rfl, _, rfl, _, rfl, lq, _, _, _, rfl, rfl, SqL.of hq2, at_of (j := b) rfl (by rw [List.getElem?_map, ec]; rfl), ?_⟩
        refine ⟨D, c, us', Sc12.behind (abs rs) b, rfl, hDD, hc, fun x m => by rw [L'.len]; exact behind_lt m, ?_⟩
        refine ⟨_, rfl, _, rfl, D2, _, _, _, rfl, rfl, SqL.of hDD2, not_at (by omega), _, _, rfl, rfl, _, _, rfl, rfl, ?_⟩
        have et : Builtin.bitOr ((us'.getD b 0 : Nat) : Int) (Builtin.bitAnd ((anyN us' (Sc12.behind (abs rs) b) : Nat) : Int) (Builtin.bitNot ((gs.getD b 0 : Nat) : Int))) = ((turnN (abs rs) us' b (gs.getD b 0) : Nat) : Int) := by
          rw [less_nat, or_nat]; rfl
        show gName 6 (V.int (Builtin.bitOr _ (Builtin.bitAnd _ _))) _ _ _
        rw [et]
        generalize ht : turnN (abs rs) us' b (gs.getD b 0) = t
        refine ⟨_, rfl, _, rfl, _, rfl, D, _, _, _, rfl, rfl, SqL.of hDD, nat_at hu, rfl, _, rfl, ?_⟩
        refine ite2 (fun h => ?_) (fun h => ?_)
        · have h : t ≠ us'.getD b 0 := fun e => by
            have z : decide (V.int (t : Int) = natV (us'.getD b 0)) = false := by simpa using h
            exact of_decide_eq_false z (by rw [e]; rfl)
          have gr := L'.grow wf hbs (hg b hbl) (by rw [ht]; exact h)
          rw [ht] at gr
          refine ⟨_, rfl, _, rfl, _, rfl, D, _, _, b, rfl, rfl, hDD, ?_, ?_⟩
          · unfold ixN
            rw [if_pos (by omega), if_pos (by rw [List.length_map]; omega)]
            simp
          · refine ⟨us'.set b t, true, some (natV b), some (natV t), rfl, by rw [upd_same, List.map_set]; rfl, by rw [upd_ne nD.symm]; exact hDD2, fun x o e => by rw [upd_ne (ne_of_none e hD)]; exact sm' x o e, by rw [← ht]; exact L'.turn hbs (hg b hbl), (fun z => by cases z), fun _ => ?_⟩
            cases g with
            | false => rw [(c1 rfl).1] at gr ⊢; exact gr
            | true => exact Nat.lt_trans (c2 rfl) gr
        · have h : t = us'.getD b 0 := by
            have z : decide (V.int (t : Int) = natV (us'.getD b 0)) = true := by simpa using h
            have := V.int.inj (of_decide_eq_true z)
            omega
          refine ⟨us', g, some (natV b), some (natV t), rfl, hDD, hDD2, sm', L', fun z => ?_, c2⟩
          obtain ⟨e, hcl⟩ := c1 z
          refine ⟨e, fun b' h1 h2 => ?_⟩
          by_cases eb' : b' = b
          · subst eb'
            rw [← e]
            exact closed_of_turn (hg b' hbl) (by rw [ht]; exact h)
          · exact hcl b' (by omega) h2
      · rintro σ H'' ⟨us', g, o1, o2, rfl, hDD, hDD2, sm', L', c1, c2⟩
        refine ⟨2 * (4096 - tot us') + (if g = true then 1 else 0), ?_, us', g, o1, o2, rfl, hDD, hDD2, sm', L', fun z => ?_, rfl⟩
        · cases g with
          | false => rw [(c1 rfl).1]; simp
          | true =>
            have h1 := c2 rfl
            have h2 := tot_le us'
            rw [L'.len, hsl] at h2
            simp
            omega
        · obtain ⟨e, hcl⟩ := c1 z
          rw [e]
          exact fun b hb => hcl b (by omega) hb
def spNum (A : Ad) (g : List RB → Int → Int) : Sp := fun vs H Q _ => ∃ (p : Addr) (rs : List RB) (F : List Addr) (b : Int), vs = [.ref p, .int b] ∧ BodyAt A H p rs F ∧ Wf rs ∧ ∀ H' : Hp, Same H H' → Q (.int (g rs b)) H'
def inS (rs : List RB) (b : Int) : Int := if hasB rs b = true then ((Sc12.set Sc12.VARS (Sc12.in_ (abs rs) b.toNat) : Nat) : Int) else 0
def outS (rs : List RB) (b : Int) : Int := if hasB rs b = true then ((Sc12.set Sc12.VARS (Sc12.out (abs rs) b.toNat) : Nat) : Int) else 0
theorem d_in_of (T : Txt K mg A) : Def P w K mg base 6 "in_of" ["body", "b"] (spNum A inS) := by
  refine T.r_in_of.def sc_in_of (fun vs H Q E h => ?_) (fun f cdv A' outer s H vs Q E hr h => ?_)
  · obtain ⟨p, rs, F, b, rfl, _⟩ := h
    rfl
  · obtain ⟨p, rs, F, b, rfl, BA, wf, k⟩ := h
    have h64 : (abs rs).length ≤ 64 := by rw [abs_len]; exact wf.len
    have BA2 := BA
    obtain ⟨lb, bs, eF, B⟩ := BA2
    obtain ⟨dx, hp⟩ := B.ins
    refine ⟨_, (pss_cons (ps_if (pt_not (pt_val (pe_dm (pv 0) T.cl_Body (d_Body_has_block T) hr (pa_cons (pv 1) pa_nil)))) (pss_one (ps_ret pe_int)) pss_nil) (pss_one (ps_ret (pe_ix ix_list (pe_def (d_in_each T) hr (pa_cons (pv 0) pa_nil)) (pv 1) (fun _ _ => rfl))))), ?_⟩
    refine ⟨_, rfl, p, dx, _, rfl, hp, rfl, _, rfl, p, rs, F, b, rfl, BA, _, rfl, ?_⟩
    refine ite2 (fun h1 => ?_) (fun h1 => ?_)
    · have h1 : hasB rs b = false := by simpa using h1
      exact Qi (k H (Same.refl H)) (by unfold inS; rw [if_neg (by rw [h1]; simp)])
    have h1 : hasB rs b = true := by simpa using h1
    obtain ⟨j, rj, ej, ej2, hj, _⟩ := hasB_get h1
    subst ej
    have hjl : j < (abs rs).length := by rw [abs_len]; exact (List.getElem?_eq_some_iff.mp hj).1
    refine ⟨_, rfl, p, rs, F, rfl, BA, wf, fun H1 q us s1 hq hU U => ?_⟩
    refine ⟨_, rfl, q, _, _, _, rfl, rfl, SqL.of hU, nat_at (by rw [U.1]; exact hjl), ?_⟩
    refine Qi (k H1 s1) ?_
    unfold inS
    rw [if_pos h1, ej2, ← vars_eq (n := us.getD j 0) fun x => ?_]
    rw [U.2 j hjl x]
    exact ⟨fun l => ⟨live_lt wf l, (in_iff h64).mpr l⟩, fun l => (in_iff h64).mp l.2⟩
theorem d_out (T : Txt K mg A) : Def P w K mg base 6 "out" ["body", "b"] (spNum A outS) := by
  refine T.r_out.def sc_out (fun vs H Q E h => ?_) (fun f cdv A' outer s H vs Q E hr h => ?_)
  · obtain ⟨p, rs, F, b, rfl, _⟩ := h
    rfl
  · obtain ⟨p, rs, F, b, rfl, BA, wf, k⟩ := h
    have h64 : (abs rs).length ≤ 64 := by rw [abs_len]; exact wf.len
    have BA2 := BA
    obtain ⟨lb, bs, eF, B⟩ := BA2
    obtain ⟨dx, hp⟩ := B.ins
    refine ⟨_, (pss_cons (ps_if (pt_not (pt_val (pe_dm (pv 0) T.cl_Body (d_Body_has_block T) hr (pa_cons (pv 1) pa_nil)))) (pss_one (ps_ret pe_int)) pss_nil) (pss_one (ps_ret (pe_def (d_in_any T) hr (pa_cons (pe_def (d_in_each T) hr (pa_cons (pv 0) pa_nil)) (pa_cons (pe_ix ix_list (pe_def (d_behind_each T) hr (pa_cons (pv 0) pa_nil)) (pv 1) (fun _ _ => rfl)) pa_nil)))))), ?_⟩
    refine ⟨_, rfl, p, dx, _, rfl, hp, rfl, _, rfl, p, rs, F, b, rfl, BA, _, rfl, ?_⟩
    refine ite2 (fun h1 => ?_) (fun h1 => ?_)
    · have h1 : hasB rs b = false := by simpa using h1
      exact Qi (k H (Same.refl H)) (by unfold outS; rw [if_neg (by rw [h1]; simp)])
    have h1 : hasB rs b = true := by simpa using h1
    obtain ⟨j, rj, ej, ej2, hj, _⟩ := hasB_get h1
    subst ej
    have hjl : j < (abs rs).length := by rw [abs_len]; exact (List.getElem?_eq_some_iff.mp hj).1
    refine ⟨_, rfl, p, rs, F, rfl, BA, wf, fun H1 q us s1 hq hU U => ?_⟩
    refine ⟨_, rfl, p, rs, F, rfl, BA.same s1, wf, fun H2 lq s2 hlq hL => ?_⟩
    obtain ⟨as, hq2, hlen, hatL⟩ := leads_len hL
    obtain ⟨c, ec, hc⟩ := hatL j hjl
    refine ⟨_, rfl, lq, _, _, _, rfl, rfl, SqL.of hq2, at_of (j := j) rfl (by rw [List.getElem?_map, ec]; rfl), ?_⟩
    refine ⟨q, c, us, _, rfl, s2 _ _ hU, hc, fun x m => by rw [U.1]; exact behind_lt m, ?_⟩
    refine Qi (k H2 (s1.trans s2)) ?_
    unfold outS
    rw [if_pos h1, ej2, ← vars_eq (n := anyN us (Sc12.behind (abs rs) j)) fun x => ?_]
    rw [testBit_anyN, out_iff h64]
    constructor
    · rintro ⟨c, m, h⟩
      have l := (U.2 c (behind_lt m) x).mp h
      exact ⟨live_lt wf l, c, m, l⟩
    · rintro ⟨_, c, m, l⟩
      exact ⟨c, m, (U.2 c (behind_lt m) x).mpr l⟩
end BF
end


section
set_option Elab.async false
set_option linter.all false
set_option maxRecDepth 100000
set_option maxHeartbeats 4000000
namespace BF
open PySem PySem.Spec PyProof.Rows L2
variable {P : Program} {w : World} {K : PySem.W.Frag} {mg : Str → Option Value} {base : Heap} {A : Ad}
theorem front_bits {s : Sc12.State} (hs : s.length ≤ 64) {b fd below : Nat} (hb : ∀ x, below.testBit x = Sc12.over s b x) (hf : ∀ c, fd.testBit c = true ↔ ∃ p, p < s.length ∧ below.testBit p = true ∧ c ∈ Sc12.behind s p) (x : Nat) :
    (less fd below ||| (fd &&& 2 ^ b)).testBit x = true ↔ x ∈ Sc12.front s b := by
  rw [testBit_orI, testBit_less, testBit_andI, mem_front, Nat.testBit_two_pow, decide_eq_true_iff, hf, hb]
  constructor
  · rintro (⟨⟨p, h1, h2, h3⟩, h4⟩ | ⟨⟨p, h1, h2, h3⟩, h4⟩)
    · rw [hb] at h2
      exact ⟨behind_lt h3, ⟨p, (over_reached h2).2, h3, h2⟩, .inl h4⟩
    · rw [hb] at h2
      exact ⟨behind_lt h3, ⟨p, (over_reached h2).2, h3, h2⟩, .inr h4⟩
  · rintro ⟨h1, ⟨p, h2, h3, h4⟩, h5⟩
    have q : ∃ p, p < s.length ∧ below.testBit p = true ∧ x ∈ Sc12.behind s p := ⟨p, reached_lt hs h2, by rw [hb]; exact h4, h3⟩
    rcases h5 with h5 | h5
    · exact .inl ⟨q, h5⟩
    · exact .inr ⟨q, h5⟩
def spFrontOf : Sp := fun vs H Q _ => ∃ (q : Addr) (s : Sc12.State) (below b : Nat), vs = [.ref q, natV below, natV b] ∧ LeadsAt H q (leadsOf s) ∧ s.length ≤ 64 ∧ b < s.length ∧ (∀ x, below.testBit x = Sc12.over s b x) ∧ ∀ (H' : Hp) (n : Nat), Same H H' → (∀ x, n.testBit x = true ↔ x ∈ Sc12.front s b) → Q (natV n) H'
theorem d_front_of (T : Txt K mg A) : Def P w K mg base 2 "front_of" ["leads", "below", "b"] spFrontOf := by
  refine T.r_front_of.def sc_front_of (fun vs H Q E h => ?_) (fun f cdv A' outer s H vs Q E hr h => ?_)
  · obtain ⟨q, s, below, b, rfl, _⟩ := h
    rfl
  · obtain ⟨q, st, below, b, rfl, hL, h64, hb, hbl, k⟩ := h
    obtain ⟨as, hq, hlen, hat⟩ := leads_len hL
    refine ⟨_, (pss_cons (ps_set (i := 3) sc_front_of.nd rfl (Or.inl rfl) pe_int) (pss_cons (ps_for PassesOwn.never rfl (pi_enum rfl T.b_enumerate (pa_cons (pv 0) pa_nil)) (pg_tup rfl (pgs_cons (pg_name (i := 4) sc_front_of.nd rfl (Or.inl rfl)) (pgs_cons (pg_name (i := 5) sc_front_of.nd rfl (Or.inl rfl)) pgs_nil))) (pss_one (ps_if (pt_val (pe_def (d_holds T) hr (pa_cons (pv 1) (pa_cons (pv 4) pa_nil)))) (pss_one (ps_for PassesOwn.never rfl (pi_list (pv 5)) (pg_name (i := 6) sc_front_of.nd rfl (Or.inl rfl)) (pss_one (ps_set (i := 3) sc_front_of.nd rfl (Or.inl rfl) (pe_op op_or (pv 3) (pe_op op_shl pe_int (pv 6))))))) pss_nil))) (pss_one (ps_ret (pe_op op_or (pe_op op_and (pv 3) (pe_un un_inv (pv 1))) (pe_op op_and (pv 3) (pe_op op_shl pe_int (pv 2)))))))), ?_⟩
    refine ⟨_, rfl, q, _, rfl, SqL.of hq, for_enum (K := K) (a := q) (xs := as.map V.ref) (fun i σ H' => ∃ (fd : Nat) (o1 o2 o3 : Option V), σ = [some (.ref q), some (natV below), some (natV b), some (natV fd), o1, o2, o3] ∧ Same H H' ∧ ∀ c, fd.testBit c = true ↔ ∃ p, p < i ∧ below.testBit p = true ∧ c ∈ Sc12.behind st p)
      ⟨0, none, none, none, rfl, Same.refl _, fun c => ⟨fun h => by simp at h, fun ⟨p, h, _⟩ => absurd h (Nat.not_lt_zero _)⟩⟩ (fun i σ H' _ ⟨_, _, _, _, _, sm, _⟩ => SqL.of (sm _ _ hq)) ?_ ?_⟩
    · rintro i y σ H' TT hj ⟨fd, o1, o2, o3, rfl, sm, hf⟩ hT
      obtain ⟨ca, hca, rfl⟩ := map_at hj
      have hi : i < st.length := by rw [← hlen]; exact (List.getElem?_eq_some_iff.mp hca).1
      obtain ⟨ca', e1, hcl⟩ := hat i hi
      rw [hca] at e1; cases e1
      have sm2 : Same H (upd H' TT (.tup [.int (i : Int), .ref ca])) := fun x o e => by rw [upd_ne (ne_of_none (sm _ _ e) hT)]; exact sm _ _ e
      refine ⟨TT, _, rfl, SqT.of upd_same, rfl, _, _, rfl, _, _, rfl, rfl, ?_⟩
      refine ⟨_, rfl, _, rfl, below, i, rfl, _, rfl, ?_⟩
      refine ite2 (fun h => ?_) (fun h => ?_)
      · refine ⟨_, rfl, ca, rfl, ⟨_, SqL.of (sm2 _ _ hcl)⟩, for_list (K := K) (a := ca) (xs := (Sc12.behind st i).map natV) (fun j σ H'' => ∃ (fd' : Nat) (o3 : Option V), σ = [some (.ref q), some (natV below), some (natV b), some (natV fd'), some (natV i), some (.ref ca), o3] ∧ H'' = (upd H' TT (.tup [.int (i : Int), .ref ca])) ∧ ∀ c, fd'.testBit c = true ↔ fd.testBit c = true ∨ c ∈ (Sc12.behind st i).take j)
          ⟨fd, o3, rfl, rfl, fun c => by simp⟩ (fun j σ H'' _ ⟨_, _, _, e, _⟩ => by rw [e]; exact SqL.of (sm2 _ _ hcl)) ?_ ?_⟩
        · rintro j y σ H'' hj ⟨fd', o3', rfl, rfl, hf'⟩
          obtain ⟨c, ec, rfl⟩ := map_at hj
          have lc : c < st.length := behind_lt (List.mem_of_getElem? ec)
          refine ⟨_, rfl, _, rfl, _, _, rfl, rfl, ⟨by omega, by omega, by decide⟩, _, _, rfl, rfl, ?_⟩
          refine ⟨fd' ||| 2 ^ c, some (natV c), ?_, rfl, fun x => ?_⟩
          · show [some (V.ref q), some (natV below), some (natV b), some (V.int (Builtin.bitOr (fd' : Int) (1 * 2 ^ ((c : Int)).toNat))), some (natV i), some (V.ref ca), some (natV c)] = _
            rw [shl_nat, or_nat]; rfl
          · rw [testBit_put, hf', take_snoc ec, List.mem_append, List.mem_singleton, or_assoc]
        · rintro σ H'' ⟨fd', o3', rfl, rfl, hf'⟩
          rw [List.length_map, List.take_length] at hf'
          refine ⟨fd', _, _, _, rfl, sm2, fun c => ?_⟩
          rw [hf', hf]
          constructor
          · rintro (⟨p, h1, h2⟩ | h1)
            · exact ⟨p, by omega, h2⟩
            · exact ⟨i, by omega, h, h1⟩
          · rintro ⟨p, h1, h2, h3⟩
            by_cases e : p = i
            · subst e; exact .inr h3
            · exact .inl ⟨p, by omega, h2, h3⟩
      · refine ⟨fd, _, _, _, rfl, sm2, fun c => ?_⟩
        rw [hf]
        constructor
        · rintro ⟨p, h1, h2⟩
          exact ⟨p, by omega, h2⟩
        · rintro ⟨p, h1, h2, h3⟩
          by_cases e : p = i
          · subst e; exact absurd h2 h
          · exact ⟨p, by omega, h2, h3⟩
    · rintro σ H' ⟨fd, o1, o2, o3, rfl, sm, hf⟩
      rw [List.length_map, hlen] at hf
      refine ⟨_, rfl, _, rfl, _, rfl, _, _, rfl, rfl, _, rfl, _, rfl, _, _, rfl, rfl, ⟨by omega, by omega, by decide⟩, _, _, rfl, rfl, _, _, rfl, rfl, ?_⟩
      refine Qi (k H' _ sm (front_bits h64 hbl hf)) ?_
      rw [shl_nat, less_nat, and_nat, or_nat]
def frontS (rs : List RB) (b : Int) : Int := if hasB rs b = true then ((Sc12.bits (Sc12.front (abs rs) b.toNat) Sc12.BLOCKS : Nat) : Int) else 0
theorem front_lt {s : Sc12.State} (hs : s.length ≤ 64) {b x : Nat} (h : x ∈ Sc12.front s b) : x < 64 := by
  have := (mem_front.mp h).1
  omega
theorem d_front (T : Txt K mg A) : Def P w K mg base 4 "front" ["body", "b"] (spNum A frontS) := by
  refine T.r_front.def sc_front (fun vs H Q E h => ?_) (fun f cdv A' outer s H vs Q E hr h => ?_)
  · obtain ⟨p, rs, F, b, rfl, _⟩ := h
    rfl
  · obtain ⟨p, rs, F, b, rfl, BA, wf, k⟩ := h
    have h64 : (abs rs).length ≤ 64 := by rw [abs_len]; exact wf.len
    have BA2 := BA
    obtain ⟨lb, bs, eF, B⟩ := BA2
    obtain ⟨dx, hp⟩ := B.ins
    refine ⟨_, (pss_cons (ps_if (pt_not (pt_val (pe_dm (pv 0) T.cl_Body (d_Body_has_block T) hr (pa_cons (pv 1) pa_nil)))) (pss_one (ps_ret pe_int)) pss_nil) (pss_cons (ps_set (i := 2) sc_front.nd rfl (Or.inl rfl) (pe_def (d_behind_each T) hr (pa_cons (pv 0) pa_nil))) (pss_one (ps_ret (pe_def (d_front_of T) hr (pa_cons (pv 2) (pa_cons (pe_def (d_under T) hr (pa_cons (pv 2) (pa_cons (pv 1) pa_nil))) (pa_cons (pv 1) pa_nil)))))))), ?_⟩
    refine ⟨_, rfl, p, dx, _, rfl, hp, rfl, _, rfl, p, rs, F, b, rfl, BA, _, rfl, ?_⟩
    refine ite2 (fun h1 => ?_) (fun h1 => ?_)
    · have h1 : hasB rs b = false := by simpa using h1
      exact Qi (k H (Same.refl H)) (by unfold frontS; rw [if_neg (by rw [h1]; simp)])
    have h1 : hasB rs b = true := by simpa using h1
    obtain ⟨j, rj, ej, ej2, hj, _⟩ := hasB_get h1
    subst ej
    have hjl : j < (abs rs).length := by rw [abs_len]; exact (List.getElem?_eq_some_iff.mp hj).1
    refine ⟨_, rfl, p, rs, F, rfl, BA, wf, fun H1 lq s1 hlq hL => ?_⟩
    refine ⟨_, rfl, _, rfl, _, rfl, lq, abs rs, j, rfl, hL, h64, fun H2 n s2 hn => ?_⟩
    refine ⟨_, rfl, lq, abs rs, n, j, rfl, hL.same s2, h64, hjl, hn, fun H3 m s3 hm => ?_⟩
    refine Qi (k H3 ((s1.trans s2).trans s3)) ?_
    unfold frontS
    rw [if_pos h1, ej2, ← bits_eq hm fun x hx => front_lt h64 hx]
theorem inV_nat (c : Nat) (l : List Nat) : inV (natV c) (l.map natV) = l.contains c := by
  unfold inV
  induction l with
  | nil => rfl
  | cons a l ih =>
    rw [List.map_cons, List.any_cons, ih, List.contains_cons]
    congr 1
    show ((a : Int) == (c : Int)) = (c == a)
    rw [Bool.eq_iff_iff]; simp; omega
theorem flat_nat (l : List Nat) : (l.map natV).all flatV = true := by
  rw [List.all_map, List.all_eq_true]
  intro x _
  rfl
def preds (s : Sc12.State) (c n : Nat) : List Nat := (List.range n).filter fun p => (Sc12.behind s p).contains c
theorem mem_preds {s : Sc12.State} {c n p : Nat} : p ∈ preds s c n ↔ p < n ∧ c ∈ Sc12.behind s p := by
  unfold preds; rw [List.mem_filter, List.mem_range, List.contains_iff_mem]
theorem preds_len (s : Sc12.State) (c n : Nat) : (preds s c n).length ≤ n := by
  unfold preds
  have := List.length_filter_le (fun p => (Sc12.behind s p).contains c) (List.range n)
  rw [List.length_range] at this
  exact this
theorem preds_snoc (s : Sc12.State) (c n : Nat) : preds s c (n + 1) = preds s c n ++ (if (Sc12.behind s n).contains c = true then [n] else []) := by
  unfold preds; rw [List.range_succ, List.filter_append, List.filter_cons, List.filter_nil]
def predB (s : Sc12.State) (b c : Nat) : List Nat := (preds s c s.length).filter fun p => decide (p ≠ b)
theorem mem_predB {s : Sc12.State} {b c p : Nat} : p ∈ predB s b c ↔ c ∈ Sc12.behind s p ∧ p ≠ b := by
  unfold predB
  rw [List.mem_filter, mem_preds, decide_eq_true_iff]
  constructor
  · rintro ⟨⟨_, h1⟩, h2⟩; exact ⟨h1, h2⟩
  · rintro ⟨h1, h2⟩
    refine ⟨⟨?_, h1⟩, h2⟩
    refine Classical.byContradiction fun z => ?_
    rw [behind_ge (by omega)] at h1
    simp at h1
def CT (s : Sc12.State) (gl : List Nat) (b x : Nat) : Prop := Reach (predB s b) (gl.filter fun p => decide (p ≠ b)) x
theorem mem_gl {gl : List Nat} {b x : Nat} : x ∈ (gl.filter fun p => decide (p ≠ b)) ↔ x ∈ gl ∧ x ≠ b := by
  rw [List.mem_filter, decide_eq_true_iff]
theorem CT.ne {s : Sc12.State} {gl : List Nat} {b x : Nat} (h : CT s gl b x) : x ≠ b := by
  cases h with
  | base m => exact (mem_gl.mp m).2
  | step _ m => exact (mem_predB.mp m).2
structure Bfs (s : Sc12.State) (gl : List Nat) (b F : Nat) (wl : List Nat) : Prop where
  i1 : ∀ x, F.testBit x = true → CT s gl b x
  i2 : ∀ x ∈ wl, x < s.length ∧ (x = b ∨ CT s gl b x)
  i3 : ∀ x, F.testBit x = true → ∀ y, x ∈ Sc12.behind s y → y = b ∨ F.testBit y = true ∨ y ∈ wl
  i4 : ∀ x ∈ gl, x = b ∨ F.testBit x = true ∨ x ∈ wl
  i5 : wl.length ≤ 64 + 64 * card F
section
variable {s : Sc12.State} {gl : List Nat} {b F y : Nat} {wl : List Nat}
theorem Bfs.start (hl : gl.length ≤ 64) (hg : ∀ x ∈ gl, x < s.length) : Bfs s gl b 0 gl := by
  refine ⟨fun x h => by simp at h, fun x m => ⟨hg x m, ?_⟩, fun x h => by simp at h, fun x m => .inr (.inr m), by omega⟩
  by_cases e : x = b
  · exact .inl e
  · exact .inr (.base (mem_gl.mpr ⟨m, e⟩))
theorem Bfs.skip (D : Bfs s gl b F (wl ++ [y])) (h : y = b ∨ F.testBit y = true) : Bfs s gl b F wl := by
  have mv : ∀ z, z ∈ wl ++ [y] → z = b ∨ F.testBit z = true ∨ z ∈ wl := fun z m => by
    rcases List.mem_append.mp m with q | q
    · exact .inr (.inr q)
    · rw [List.mem_singleton.mp q]
      exact h.imp id .inl
  refine ⟨D.i1, fun x m => D.i2 x (List.mem_append_left _ m), fun x hx z hz => ?_, fun x hx => ?_, by have := D.i5; simp at this; omega⟩
  · rcases D.i3 x hx z hz with q | q | q
    · exact .inl q
    · exact .inr (.inl q)
    · exact mv z q
  · rcases D.i4 x hx with q | q | q
    · exact .inl q
    · exact .inr (.inl q)
    · exact mv x q
theorem Bfs.take (hs : s.length ≤ 64) (D : Bfs s gl b F (wl ++ [y])) (h1 : y ≠ b) (h2 : F.testBit y = false) : Bfs s gl b (F ||| 2 ^ y) (wl ++ preds s y s.length) ∧ card (F ||| 2 ^ y) = card F + 1 ∧ y < s.length := by
  have my : y ∈ wl ++ [y] := List.mem_append_right _ (List.mem_singleton.mpr rfl)
  have ry : CT s gl b y := (D.i2 y my).2.resolve_left h1
  have ly := (D.i2 y my).1
  have cd := card_put h2 (Nat.lt_of_lt_of_le ly hs)
  have hb := testBit_put F y
  have mv : ∀ z, z ∈ wl ++ [y] → (F ||| 2 ^ y).testBit z = true ∨ z ∈ wl ++ preds s y s.length := fun z m => by
    rcases List.mem_append.mp m with m | m
    · exact .inr (List.mem_append_left _ m)
    · exact .inl ((hb z).mpr (.inr (List.mem_singleton.mp m)))
  have lp : ∀ {x z : Nat}, x ∈ Sc12.behind s z → z < s.length := fun {x z} h => by
    refine Classical.byContradiction fun q => ?_
    rw [behind_ge (by omega)] at h
    simp at h
  refine ⟨⟨fun x hx => ?_, fun x m => ?_, fun x hx z hz => ?_, fun x hx => ?_, ?_⟩, cd, ly⟩
  · rcases (hb x).mp hx with q | q
    · exact D.i1 x q
    · rw [q]; exact ry
  · rcases List.mem_append.mp m with m | m
    · exact D.i2 x (List.mem_append_left _ m)
    · have m := mem_preds.mp m
      refine ⟨m.1, ?_⟩
      by_cases e : x = b
      · exact .inl e
      · exact .inr (.step ry (mem_predB.mpr ⟨m.2, e⟩))
  · rcases (hb x).mp hx with q | q
    · rcases D.i3 x q z hz with t | t | t
      · exact .inl t
      · exact .inr (.inl ((hb z).mpr (.inl t)))
      · exact .inr (mv z t)
    · subst q
      exact .inr (.inr (List.mem_append_right _ (mem_preds.mpr ⟨lp hz, hz⟩)))
  · rcases D.i4 x hx with t | t | t
    · exact .inl t
    · exact .inr (.inl ((hb x).mpr (.inl t)))
    · exact .inr (mv x t)
  · have h5 := D.i5
    have := preds_len s y s.length
    rw [List.length_append] at h5 ⊢
    simp at h5
    omega
theorem Bfs.done (D : Bfs s gl b F []) (x : Nat) : F.testBit x = true ↔ CT s gl b x := by
  refine ⟨D.i1 x, fun h => ?_⟩
  refine Reach.closed (P := fun x => F.testBit x = true) (fun x m => ?_) (fun x y hx hy => ?_) h
  · have m := mem_gl.mp m
    rcases D.i4 x m.1 with q | q | q
    · exact absurd q m.2
    · exact q
    · simp at q
  · have m := mem_predB.mp hy
    rcases D.i3 x hx y m.1 with q | q | q
    · exact absurd q m.2
    · exact q
    · simp at q
end
def spComing : Sp := fun vs H Q _ => ∃ (q gq : Addr) (s : Sc12.State) (gl : List Nat) (b : Nat), vs = [.ref q, .ref gq, natV b] ∧ LeadsAt H q (leadsOf s) ∧ s.length ≤ 64 ∧ H gq = some (.lst (gl.map natV)) ∧ gl.length ≤ 64 ∧ (∀ x ∈ gl, x < s.length) ∧ ∀ (H' : Hp) (n : Nat), Same H H' → (∀ x, n.testBit x = true ↔ CT s gl b x) → Q (natV n) H'
theorem d_coming_to (T : Txt K mg A) : Def P w K mg base 2 "coming_to" ["leads", "goals", "b"] spComing := by
  refine T.r_coming_to.def sc_coming_to (fun vs H Q E h => ?_) (fun f cdv A' outer s H vs Q E hr h => ?_)
  · obtain ⟨q, gq, s, gl, b, rfl, _⟩ := h
    rfl
  · obtain ⟨q, gq, st, gl, b, rfl, hL, h64, hG, hgl, hgs, k⟩ := h
    obtain ⟨as, hq, hlen, hat⟩ := leads_len hL
    have hline : (10000 : Nat) < sizeLine := by decide
    refine ⟨_, (pss_cons (ps_set (i := 3) sc_coming_to.nd rfl (Or.inl rfl) pe_int) (pss_cons (ps_set (i := 4) sc_coming_to.nd rfl (Or.inl rfl) (pe_callTy call_list_of (by rfl) T.b_list bt_list (pa_cons (pv 1) pa_nil))) (pss_cons (ps_while PassesOwn.never (pt_cmpR op_gt (pe_callB call_len_seq (by rfl) T.b_len bt_len (pa_cons (pv 4) pa_nil)) pe_int (nomark _)) (pss_cons (ps_set (i := 5) sc_coming_to.nd rfl (Or.inr rfl) (pe_bm0 PySem.F.plainAttrs_list PySem.F.slot_list_pop PySem.F.type_list_pop mt_pop (pv 4))) (pss_one (ps_if (PW.pt (pw_and (pt_cmpR op_ne (pv 5) (pv 2) (nomark _)) (pw_and1 (pt_not (pt_val (pe_def (d_holds T) hr (pa_cons (pv 3) (pa_cons (pv 5) pa_nil)))))))) (pss_cons (ps_set (i := 3) sc_coming_to.nd rfl (Or.inl rfl) (pe_op op_or (pv 3) (pe_op op_shl pe_int (pv 5)))) (pss_one (ps_expr (pe_bm PySem.F.plainAttrs_list PySem.F.slot_list_extend PySem.F.type_list_extend mt_extend (pv 4) (pa_cons (pe_lc (own := [("p", 6)]) rfl sc_coming_to.nd (pi_range1 rfl T.b_range (pa_cons (pe_callB call_len_seq (by rfl) T.b_len bt_len (pa_cons (pv 0) pa_nil)) pa_nil)) (blkOk_by (N := ["leads", "goals", "b", "found", "waiting", "c", "p"]) (sc := defScope s_coming_to) (by decide +kernel)) (fun _ _ _ _ _ => (pg_name (i := 6) sc_coming_to.nd rfl (Or.inl rfl))) (fun _ _ _ _ _ => (pts_one (pt_cmpR (op_in_seqK (K := K)) (pv 5) (pe_ix (ix_listK (K := K)) (pv 0) (pv 6) (fun _ _ => rfl)) rfl))) (fun _ _ _ _ _ => (pv 6))) pa_nil))))) pss_nil)))) (pss_one (ps_ret (pv 3)))))), ?_⟩
    refine ⟨_, rfl, gq, _, rfl, .inl (SqL.of hG), fun wq hwq => ?_⟩
    refine ⟨fun m σ H' => ∃ (F : Nat) (wl : List Nat) (o : Option V), σ = [some (.ref q), some (.ref gq), some (natV b), some (natV F), some (.ref wq), o, none] ∧ H' wq = some (.lst (wl.map natV)) ∧ Same H H' ∧ m = wl.length + 65 * (64 - card F) ∧ Bfs st gl b F wl,
      ⟨_, 0, gl, none, rfl, upd_same, fun b o e => by rw [upd_ne (ne_of_none e hwq)]; exact e, rfl, Bfs.start hgl hgs⟩, ?_⟩
    rintro m σ H' ⟨F, wl, o, rfl, hw, sm, rfl, D⟩
    refine ⟨_, rfl, wq, _, rfl, .inl (SqL.of hw), _, _, rfl, rfl, _, rfl, ?_⟩
    refine ite2 (fun h => ?_) (fun h => ?_)
    · have h := of_decide_eq_true h
      rw [List.length_map] at h
      obtain ⟨wl', y, rfl⟩ := snoc_of (l := wl) (by omega)
      refine ⟨fun σ' H'' => ∃ m', m' < (wl' ++ [y]).length + 65 * (64 - card F) ∧ _, fun _ _ h => h, ?_⟩
      refine ⟨_, rfl, .inl ⟨rfl, _, SqL.of hw⟩, wq, _, natV y, rfl, rfl, hw, by simp, ?_⟩
      have ew : ((wl' ++ [y]).map natV).dropLast = wl'.map natV := by rw [List.map_append]; simp
      rw [ew]
      have sm2 : Same H (upd H' wq (.lst (wl'.map natV))) := fun b o e => by rw [upd_ne (ne_of_none e hwq)]; exact sm b o e
      generalize hH2 : upd H' wq (.lst (wl'.map natV)) = H2 at sm2
      have hw2 : H2 wq = some (.lst (wl'.map natV)) := by rw [← hH2]; exact upd_same
      refine ⟨_, rfl, _, rfl, rfl, _, rfl, ?_⟩
      have go : y = b ∨ F.testBit y = true → ∃ m', m' < (wl' ++ [y]).length + 65 * (64 - card F) ∧ ∃ (F' : Nat) (wl2 : List Nat) (o : Option V), ([some (.ref q), some (.ref gq), some (natV b), some (natV F), some (.ref wq), some (natV y), none] : List (Option V)) = [some (.ref q), some (.ref gq), some (natV b), some (natV F'), some (.ref wq), o, none] ∧ H2 wq = some (.lst (wl2.map natV)) ∧ Same H H2 ∧ m' = wl2.length + 65 * (64 - card F') ∧ Bfs st gl b F' wl2 := fun c =>
        ⟨wl'.length + 65 * (64 - card F), by simp, F, wl', _, rfl, hw2, sm2, rfl, D.skip c⟩
      refine ite2 (fun h1 => ?_) (fun h1 => ?_)
      · have h1 : y ≠ b := fun e => by
          have z : decide (natV y = natV b) = false := by simpa using h1
          exact of_decide_eq_false z (by rw [e])
        refine ⟨_, rfl, _, rfl, F, y, rfl, _, rfl, ?_⟩
        refine ite2 (fun h2 => ?_) (fun h2 => ?_)
        · have h2 : F.testBit y = false := by simpa using h2
          obtain ⟨D2, cd, ly⟩ := D.take h64 h1 h2
          have i5 := D.i5
          have cl := card_le (F ||| 2 ^ y)
          rw [List.length_append] at i5
          have hn : (as.map V.ref).length = st.length := by rw [List.length_map, hlen]
          refine ⟨_, rfl, _, rfl, _, _, rfl, rfl, ⟨by omega, by omega, by decide⟩, _, _, rfl, rfl, ?_⟩
          refine ⟨_, rfl, .inl ⟨rfl, _, SqL.of hw2⟩, _, rfl, q, _, rfl, .inl (SqL.of (sm2 _ _ hq)), _, rfl, (by rw [hn]; omega), (by rw [hn]; omega), fun D3 hD3 => ?_⟩
          refine lc_range (lo := 0) (fun i H3 => H3 D3 = some (.lst ((preds st y i).map natV)) ∧ Same H2 H3) ⟨upd_same, fun b o e => by rw [upd_ne (ne_of_none e hD3)]; exact e⟩ ?_ ?_
          · rintro i H3 hi ⟨hd, s3⟩
            have hi : i < st.length := by rw [hn] at hi; simpa using hi
            obtain ⟨c, ec, hc⟩ := hat i hi
            have e0 : (0 : Int) + (i : Int) = (i : Int) := by omega
            refine ⟨rfl, ?_⟩
            refine ⟨_, rfl, _, rfl, _, rfl, q, _, _, _, rfl, rfl, SqL.of (s3 _ _ (sm2 _ _ hq)), at_of (j := i) e0 (by rw [List.getElem?_map, ec]; rfl), ?_⟩
            refine ⟨c, _, rfl, .inl (SqL.of (s3 _ _ (sm2 _ _ hc))), rfl, flat_nat _, _, rfl, ?_⟩
            have e := preds_snoc st y i
            have pl := preds_len st y i
            have ev : (if false = true then !inV (natV y) ((Sc12.behind st i).map natV) else inV (natV y) ((Sc12.behind st i).map natV)) = (Sc12.behind st i).contains y := inV_nat y _
            rw [ev]
            refine ite2 (fun h' => ⟨_, rfl, _, hd, ?_, ?_, fun b o eb => ?_⟩) (fun h' => ⟨?_, s3⟩)
            · rw [List.length_map]; omega
            · rw [upd_same, e, if_pos h', List.map_append, e0]; rfl
            · rw [upd_ne (ne_of_none eb hD3)]; exact s3 b o eb
            · rw [hd, e, if_neg h', List.append_nil]
          · rintro H3 ⟨hd, s3⟩
            have en : ((((as.map V.ref).length : Nat) : Int)).toNat = st.length := by rw [hn]; simp
            rw [en] at hd
            have pl := preds_len st y st.length
            refine ⟨wq, D3, _, _, rfl, rfl, s3 _ _ hw2, hd, ?_, ?_⟩
            · rw [List.length_map, List.length_map]
              simp at i5
              omega
            · refine ⟨(wl' ++ preds st y st.length).length + 65 * (64 - card (F ||| 2 ^ y)), ?_, F ||| 2 ^ y, wl' ++ preds st y st.length, some (natV y), ?_, ?_, fun b o e => by rw [upd_ne (ne_of_none e hwq)]; exact s3 _ _ (sm2 b o e), rfl, D2⟩
              · rw [List.length_append, List.length_append, cd]
                simp
                omega
              · show [some (V.ref q), some (V.ref gq), some (natV b), some (V.int (Builtin.bitOr (F : Int) (1 * 2 ^ ((y : Int)).toNat))), some (V.ref wq), some (natV y), none] = _
                rw [shl_nat, or_nat]; rfl
              · rw [upd_same, List.map_append]
        · have h2 : F.testBit y = true := by simpa using h2
          exact go (.inr h2)
      · have h1 : y = b := by
          have z : decide (natV y = natV b) = true := by simpa using h1
          have := V.int.inj (of_decide_eq_true z)
          omega
        exact iteF (go (.inl h1))
    · have h0 : wl = [] := by
        cases wl with
        | nil => rfl
        | cons x l => exact absurd (decide_eq_true (by rw [List.length_map]; simp)) h
      subst h0
      exact ⟨_, rfl, k H' F sm fun x => D.done x⟩
def turning (s : Sc12.State) (b n : Nat) : List Nat := (List.range n).filter fun p => Sc12.over s b p && (Sc12.behind s p).contains b
theorem turning_snoc (s : Sc12.State) (b n : Nat) : turning s b (n + 1) = turning s b n ++ (if (Sc12.over s b n && (Sc12.behind s n).contains b) = true then [n] else []) := by
  unfold turning; rw [List.range_succ, List.filter_append, List.filter_cons, List.filter_nil]
theorem turning_len (s : Sc12.State) (b n : Nat) : (turning s b n).length ≤ n := by
  unfold turning
  have := List.length_filter_le (fun p => Sc12.over s b p && (Sc12.behind s p).contains b) (List.range n)
  rw [List.length_range] at this
  exact this
theorem mem_turning {s : Sc12.State} (hs : s.length ≤ 64) {b p : Nat} : p ∈ turning s b s.length ↔ p ∈ back s b := by
  unfold turning
  rw [mem_back, List.mem_filter, List.mem_range, Bool.and_eq_true, List.contains_iff_mem]
  constructor
  · rintro ⟨_, h1, h2⟩; exact ⟨(over_reached h1).2, h2, h1⟩
  · rintro ⟨h0, h2, h1⟩; exact ⟨reached_lt hs h0, h1, h2⟩
theorem loop_bits {s : Sc12.State} (hs : s.length ≤ 64) {b ct re : Nat} (hc : ∀ x, ct.testBit x = true ↔ CT s (turning s b s.length) b x) (hr : ∀ x, re.testBit x = true ↔ RW s (-1) x) (hne : turning s b s.length ≠ []) (x : Nat) :
    (2 ^ b ||| (ct &&& re)).testBit x = true ↔ x ∈ Sc12.loop s b := by
  rw [testBit_orI, testBit_andI, hc, hr, RW_all hs, mem_loop hs, Nat.testBit_two_pow, decide_eq_true_iff]
  have he : ∃ p, p ∈ back s b := by
    cases e : turning s b s.length with
    | nil => exact absurd e hne
    | cons p l => exact ⟨p, (mem_turning hs).mp (by rw [e]; exact List.mem_cons_self ..)⟩
  have fw : ∀ {x}, Reach (rback s b) (back s b) x → x = b ∨ (CT s (turning s b s.length) b x ∧ x ∈ Sc12.reached s) := fun {x} r => by
    induction r with
    | @base x m =>
      by_cases e : x = b
      · exact .inl e
      · exact .inr ⟨.base (mem_gl.mpr ⟨(mem_turning hs).mpr m, e⟩), (mem_back.mp m).1⟩
    | @step x y _ m ih =>
      unfold rback at m
      split at m
      · simp at m
      · rename_i hx
        have m := mem_before.mp m
        by_cases e : y = b
        · exact .inl e
        · exact .inr ⟨.step (ih.resolve_left hx).1 (mem_predB.mpr ⟨m.2, e⟩), m.1⟩
  have bw : ∀ {x}, CT s (turning s b s.length) b x → x ∈ Sc12.reached s → Reach (rback s b) (back s b) x := fun {x} r => by
    induction r with
    | base m => exact fun _ => .base ((mem_turning hs).mp (mem_gl.mp m).1)
    | @step x y r m ih =>
      intro hy
      have m := mem_predB.mp m
      refine .step (ih (reached_next hs hy m.1)) ?_
      unfold rback
      rw [if_neg (CT.ne r)]
      exact mem_before.mpr ⟨hy, m.1⟩
  constructor
  · rintro (h | ⟨h1, h2⟩)
    · exact ⟨he, .inl h.symm⟩
    · exact ⟨he, .inr (bw h1 h2)⟩
  · rintro ⟨_, h | h⟩
    · exact .inl h.symm
    · exact (fw h).imp Eq.symm id
def loopS (rs : List RB) (b : Int) : Int := if hasB rs b = true then ((Sc12.bits (Sc12.loop (abs rs) b.toNat) Sc12.BLOCKS : Nat) : Int) else 0
theorem d_loop (T : Txt K mg A) : Def P w K mg base 4 "loop" ["body", "b"] (spNum A loopS) := by
  refine T.r_loop.def sc_loop (fun vs H Q E h => ?_) (fun f cdv A' outer s H vs Q E hr h => ?_)
  · obtain ⟨p, rs, F, b, rfl, _⟩ := h
    rfl
  · obtain ⟨p, rs, F, b, rfl, BA, wf, k⟩ := h
    have h64 : (abs rs).length ≤ 64 := by rw [abs_len]; exact wf.len
    have hline : (64 : Nat) < sizeLine := by decide
    have BA2 := BA
    obtain ⟨lb, bs, eF, B⟩ := BA2
    obtain ⟨dx, hp⟩ := B.ins
    refine ⟨_, (pss_cons (ps_if (pt_not (pt_val (pe_dm (pv 0) T.cl_Body (d_Body_has_block T) hr (pa_cons (pv 1) pa_nil)))) (pss_one (ps_ret pe_int)) pss_nil) (pss_cons (ps_set (i := 2) sc_loop.nd rfl (Or.inr rfl) (pe_def (d_behind_each T) hr (pa_cons (pv 0) pa_nil))) (pss_cons (ps_set (i := 3) sc_loop.nd rfl (Or.inr rfl) (pe_def (d_under T) hr (pa_cons (pv 2) (pa_cons (pv 1) pa_nil)))) (pss_cons (ps_setLc (i := 4) (own := [("p", 5)]) rfl sc_loop.nd rfl rfl (sw_true rfl rfl rfl (by decide +kernel)) (pi_range1 rfl T.b_range (pa_cons (pe_callB call_len_seq (by rfl) T.b_len bt_len (pa_cons (pv 2) pa_nil)) pa_nil)) (blkOk_by (N := ["body", "b", "leads", "below", "turning", "p"]) (sc := defScope s_loop) (by decide +kernel)) (fun _ _ _ _ _ => (pg_name (i := 5) sc_loop.nd rfl (Or.inl rfl))) (fun _ _ _ _ _ => (pts_one (PW.pt (pw_and (pt_val (pe_def (d_holds T) hr (pa_cons (pv 3) (pa_cons (pv 5) pa_nil)))) (pw_and1 (pt_cmpR (op_in_seqK (K := K)) (pv 1) (pe_ix (ix_listK (K := K)) (pv 2) (pv 5) (fun _ _ => rfl)) rfl)))))) (fun _ _ _ _ _ => (pv 5))) (pss_cons (ps_if (pt_cmpR op_eq (pe_callB call_len_seq (by rfl) T.b_len bt_len (pa_cons (pv 4) pa_nil)) pe_int (nomark _)) (pss_one (ps_ret pe_int)) pss_nil) (pss_one (ps_ret (pe_op op_or (pe_op op_shl pe_int (pv 1)) (pe_op op_and (pe_def (d_coming_to T) hr (pa_cons (pv 2) (pa_cons (pv 4) (pa_cons (pv 1) pa_nil)))) (pe_def (d_reached_without T) hr (pa_cons (pv 2) (pa_cons (gl T.c_NO_BLOCK) pa_nil)))))))))))), ?_⟩
    refine ⟨_, rfl, p, dx, _, rfl, hp, rfl, _, rfl, p, rs, F, b, rfl, BA, _, rfl, ?_⟩
    refine ite2 (fun h1 => ?_) (fun h1 => ?_)
    · have h1 : hasB rs b = false := by simpa using h1
      exact Qi (k H (Same.refl H)) (by unfold loopS; rw [if_neg (by rw [h1]; simp)])
    have h1 : hasB rs b = true := by simpa using h1
    obtain ⟨j, rj, ej, ej2, hj, _⟩ := hasB_get h1
    subst ej
    have hjl : j < (abs rs).length := by rw [abs_len]; exact (List.getElem?_eq_some_iff.mp hj).1
    have k2 : ∀ (H' : Hp) (n : Nat), Same H H' → (∀ x, n.testBit x = true ↔ x ∈ Sc12.loop (abs rs) j) → Q (natV n) H' := fun H' n sm hn => by
      refine Qi (k H' sm) ?_
      unfold loopS
      rw [if_pos h1, ej2, ← bits_eq hn fun x hx => ?_]
      rcases (mem_loop h64).mp hx with ⟨_, e | r⟩
      · omega
      · have := r.lt (n := (abs rs).length) (fun y hy => reached_lt h64 (mem_back.mp hy).1) fun y _ z hz => rback_lt h64 hz
        omega
    refine ⟨_, rfl, p, rs, F, rfl, BA, wf, fun H1 lq s1 hlq hL => ?_⟩
    refine ⟨_, rfl, _, rfl, lq, abs rs, j, rfl, hL, h64, fun H2 n s2 hn => ?_⟩
    have hL2 := hL.same s2
    obtain ⟨as, hq, hlen, hat⟩ := leads_len hL2
    have hna : (as.map V.ref).length = (abs rs).length := by rw [List.length_map, hlen]
    refine ⟨_, rfl, lq, _, rfl, .inl (SqL.of hq), _, rfl, (by rw [hna]; omega), (by rw [hna]; omega), fun D hD => ?_⟩
    refine lc_range (lo := 0) (fun i H3 => H3 D = some (.lst ((turning (abs rs) j i).map natV)) ∧ Same H2 H3) ⟨upd_same, fun b o e => by rw [upd_ne (ne_of_none e hD)]; exact e⟩ ?_ ?_
    · rintro i H3 hi ⟨hd, s3⟩
      have hi : i < (abs rs).length := by rw [hna] at hi; simpa using hi
      obtain ⟨c, ec, hc⟩ := hat i hi
      have e0 : (0 : Int) + (i : Int) = (i : Int) := by omega
      have e := turning_snoc (abs rs) j i
      have tl := turning_len (abs rs) j i
      refine ⟨rfl, ?_⟩
      refine ⟨_, rfl, _, rfl, n, i, (by rw [e0]; rfl), _, rfl, ?_⟩
      rw [hn]
      refine ite2 (fun h => ?_) (fun h => ?_)
      · refine ⟨_, rfl, _, rfl, _, rfl, lq, _, _, _, rfl, rfl, SqL.of (s3 _ _ hq), at_of (j := i) e0 (by rw [List.getElem?_map, ec]; rfl), ?_⟩
        refine ⟨c, _, rfl, .inl (SqL.of (s3 _ _ hc)), rfl, flat_nat _, _, rfl, ?_⟩
        have ev : (if false = true then !inV (V.int (j : Int)) ((Sc12.behind (abs rs) i).map natV) else inV (V.int (j : Int)) ((Sc12.behind (abs rs) i).map natV)) = (Sc12.behind (abs rs) i).contains j := inV_nat j _
        rw [ev]
        refine ite2 (fun h' => ⟨_, rfl, _, hd, ?_, ?_, fun b o eb => ?_⟩) (fun h' => ⟨?_, s3⟩)
        · rw [List.length_map]; omega
        · rw [upd_same, e, if_pos (by rw [h, h']; rfl), List.map_append, e0]; rfl
        · rw [upd_ne (ne_of_none eb hD)]; exact s3 b o eb
        · rw [hd, e, if_neg (by rw [h]; simpa using h'), List.append_nil]
      · refine iteF ⟨?_, s3⟩
        rw [hd, e, if_neg (by simp at h; simp [h]), List.append_nil]
    · rintro H3 ⟨hd, s3⟩
      have en : ((((as.map V.ref).length : Nat) : Int)).toNat = (abs rs).length := by rw [hna]; simp
      rw [en] at hd
      have tl := turning_len (abs rs) j (abs rs).length
      have s23 : Same H H3 := (s1.trans s2).trans s3
      refine ⟨_, rfl, D, _, rfl, .inl (SqL.of hd), rfl, _, rfl, ?_⟩
      refine ite2 (fun h => ?_) (fun h => ?_)
      · have h : ((((turning (abs rs) j (abs rs).length).map natV).length : Nat) : Int) = 0 := V.int.inj (of_decide_eq_true h)
        have h : turning (abs rs) j (abs rs).length = [] := List.eq_nil_of_length_eq_zero (by rw [List.length_map] at h; omega)
        refine Qi (k2 H3 0 s23 fun x => ⟨fun z => by simp at z, fun z => ?_⟩) rfl
        obtain ⟨⟨p, hp⟩, _⟩ := (mem_loop h64).mp z
        have := (mem_turning h64).mpr hp
        rw [h] at this; simp at this
      · have h : turning (abs rs) j (abs rs).length ≠ [] := fun e => h (by rw [e]; rfl)
        refine ⟨_, rfl, _, _, rfl, rfl, ⟨by omega, by omega, by decide⟩, ?_⟩
        refine ⟨_, rfl, _, rfl, _, rfl, lq, D, abs rs, turning (abs rs) j (abs rs).length, j, rfl, hL2.same s3, h64, hd, by omega, fun x m => ?_, fun H4 ct s4 hct => ?_⟩
        · exact reached_lt h64 (mem_back.mp ((mem_turning h64).mp m)).1
        refine ⟨_, rfl, lq, abs rs, -1, rfl, (hL2.same s3).same s4, h64, fun H5 re s5 hre => ?_⟩
        refine ⟨_, _, rfl, rfl, _, _, rfl, rfl, ?_⟩
        refine Qi (k2 H5 _ ((s23.trans s4).trans s5) (loop_bits h64 hct hre h)) ?_
        rw [shl_nat, and_nat, or_nat]
end BF
end


section
set_option Elab.async false
set_option linter.all false
set_option maxRecDepth 100000
set_option maxHeartbeats 4000000
namespace BF
open PySem PySem.Spec PyProof.Rows L2
variable {P : Program} {w : World} {K : PySem.W.Frag} {mg : Str → Option Value} {base : Heap} {A : Ad}
def frontsOf (s : Sc12.State) : List (List Nat) := (List.range s.length).map fun b => Sc12.front s b
theorem lists_len {H : Hp} {q : Addr} {s : Sc12.State} {f : Nat → List Nat} (h : LeadsAt H q ((List.range s.length).map f)) : ∃ as : List Addr, H q = some (.lst (as.map V.ref)) ∧ as.length = s.length ∧ ∀ j, j < s.length → ∃ c, as[j]? = some c ∧ H c = some (.lst ((f j).map natV)) := by
  obtain ⟨as, h1, h2, h3⟩ := h
  refine ⟨as, h1, by rw [h2]; simp, fun j hj => h3 j _ ?_⟩
  rw [List.getElem?_map, List.getElem?_range hj]
  rfl
theorem front_filter {s : Sc12.State} {b n : Nat} (h : ∀ x, n.testBit x = true ↔ x ∈ Sc12.front s b) : (List.range s.length).filter (fun c => n.testBit c) = Sc12.front s b := by
  have e : Sc12.front s b = (List.range s.length).filter fun c => decide (c ∈ Sc12.front s b) := by
    conv => lhs; unfold Sc12.front
    refine List.filter_congr fun x hx => ?_
    rw [Bool.eq_iff_iff, decide_eq_true_iff]
    unfold Sc12.front
    rw [List.mem_filter]
    exact ⟨fun q => ⟨hx, q⟩, fun q => q.2⟩
  rw [e]
  refine List.filter_congr fun x _ => ?_
  rw [Bool.eq_iff_iff, h x, decide_eq_true_iff]
def spFronts : Sp := fun vs H Q _ => ∃ (q : Addr) (s : Sc12.State), vs = [.ref q] ∧ LeadsAt H q (leadsOf s) ∧ s.length ≤ 64 ∧ ∀ (H' : Hp) (q' : Addr), Same H H' → H q' = none → LeadsAt H' q' (frontsOf s) → Q (.ref q') H'
theorem d_front_each (T : Txt K mg A) : Def P w K mg base 4 "front_each" ["leads"] spFronts := by
  refine T.r_front_each.def sc_front_each (fun vs H Q E h => ?_) (fun f cdv A' outer s H vs Q E hr h => ?_)
  · obtain ⟨q, s, rfl, _⟩ := h
    rfl
  · obtain ⟨q, st, rfl, hL, h64, k⟩ := h
    have hline : (64 : Nat) < sizeLine := by decide
    refine ⟨_, (pss_cons (ps_set (i := 1) sc_front_each.nd rfl (Or.inl rfl) (pe_lst pa_nil)) (pss_cons (ps_for PassesOwn.never rfl (pi_enum rfl T.b_enumerate (pa_cons (pe_def (d_under_each T) hr (pa_cons (pv 0) pa_nil)) pa_nil)) (pg_tup rfl (pgs_cons (pg_name (i := 2) sc_front_each.nd rfl (Or.inl rfl)) (pgs_cons (pg_name (i := 3) sc_front_each.nd rfl (Or.inl rfl)) pgs_nil))) (pss_cons (ps_set (i := 4) sc_front_each.nd rfl (Or.inr rfl) (pe_def (d_front_of T) hr (pa_cons (pv 0) (pa_cons (pv 3) (pa_cons (pv 2) pa_nil))))) (pss_one (ps_expr (pe_bm PySem.F.plainAttrs_list PySem.F.slot_list_append PySem.F.type_list_append mt_append (pv 1) (pa_cons (pe_lc (own := [("c", 5)]) rfl sc_front_each.nd (pi_range1 rfl T.b_range (pa_cons (pe_callB call_len_seq (by rfl) T.b_len bt_len (pa_cons (pv 0) pa_nil)) pa_nil)) (blkOk_by (N := ["leads", "fronts", "b", "below", "found", "c"]) (sc := defScope s_front_each) (by decide +kernel)) (fun _ _ _ _ _ => (pg_name (i := 5) sc_front_each.nd rfl (Or.inl rfl))) (fun _ _ _ _ _ => (pts_one (pt_val (pe_def (d_holds T) hr (pa_cons (pv 4) (pa_cons (pv 5) pa_nil)))))) (fun _ _ _ _ _ => (pv 5))) pa_nil)))))) (pss_one (ps_ret (pv 1))))), ?_⟩
    refine ⟨Nat.zero_le _, fun fq hfq => ?_⟩
    have s0 : Same H (upd H fq (.lst [])) := fun x o e => by rw [upd_ne (ne_of_none e hfq)]; exact e
    refine ⟨_, rfl, q, st, rfl, hL.same s0, h64, fun H1 uq us s1 huq hU U => ?_⟩
    have hf1 := s1 _ _ (upd_same : (upd H fq (.lst [])) fq = some (.lst []))
    have nuf : uq ≠ fq := fun e => by rw [e, upd_same] at huq; cases huq
    have hul : (us.map natV).length = st.length := by rw [List.length_map, U.1]
    refine ⟨uq, _, rfl, SqL.of hU, for_enum (K := K) (a := uq) (xs := us.map natV) (fun i σ H' => ∃ (as : List Addr) (o2 o3 o4 : Option V), σ = [some (.ref q), some (.ref fq), o2, o3, o4, none] ∧ H' fq = some (.lst (as.map V.ref)) ∧ as.length = i ∧ Same H H' ∧ H' uq = some (.lst (us.map natV)) ∧ ∀ j, j < i → ∃ c, as[j]? = some c ∧ c ≠ fq ∧ H' c = some (.lst ((Sc12.front st j).map natV)))
      ⟨[], none, none, none, rfl, hf1, rfl, s0.trans s1, hU, fun j hj => absurd hj (Nat.not_lt_zero _)⟩ (fun i σ H' _ ⟨_, _, _, _, _, _, _, _, hu, _⟩ => SqL.of hu) ?_ ?_⟩
    · rintro i y σ H' TT hj ⟨as, o2, o3, o4, rfl, hF, hl, sm, hu, hat⟩ hT
      obtain ⟨below, ebel, rfl⟩ := map_at hj
      have hi : i < st.length := by rw [← U.1]; exact (List.getElem?_eq_some_iff.mp ebel).1
      have ebel2 : us.getD i 0 = below := by rw [List.getD_eq_getElem?_getD, ebel]; rfl
      have s2 : Same H' (upd H' TT (.tup [.int (i : Int), natV below])) := fun x o e => by rw [upd_ne (ne_of_none e hT)]; exact e
      refine ⟨TT, _, rfl, SqT.of upd_same, rfl, _, _, rfl, _, _, rfl, rfl, ?_⟩
      refine ⟨_, rfl, _, rfl, _, rfl, q, st, below, i, rfl, hL.same (sm.trans s2), h64, hi, fun x => by rw [← ebel2]; exact U.2 i x hi, fun H3 n s3 hn => ?_⟩
      have s23 : Same H' H3 := s2.trans s3
      have hL3 := hL.same (sm.trans s23)
      obtain ⟨ls, hq, hlen, _⟩ := leads_len hL3
      have hna : (ls.map V.ref).length = st.length := by rw [List.length_map, hlen]
      refine ⟨_, rfl, .inl ⟨rfl, _, SqL.of (s23 _ _ hF)⟩, _, rfl, q, _, rfl, .inl (SqL.of hq), _, rfl, (by rw [hna]; omega), (by rw [hna]; omega), fun D hD => ?_⟩
      refine lc_range (lo := 0) (fun c H4 => H4 D = some (.lst (((List.range c).filter fun x => n.testBit x).map natV)) ∧ Same H3 H4) ⟨upd_same, fun b o e => by rw [upd_ne (ne_of_none e hD)]; exact e⟩ ?_ ?_
      · rintro c H4 hc ⟨hd, s4⟩
        have hc : c < st.length := by rw [hna] at hc; simpa using hc
        have e0 : (0 : Int) + (c : Int) = (c : Int) := by omega
        have e : ((List.range (c + 1)).filter fun x => n.testBit x) = ((List.range c).filter fun x => n.testBit x) ++ (if n.testBit c = true then [c] else []) := by
          rw [List.range_succ, List.filter_append, List.filter_cons, List.filter_nil]
        have pl := List.length_filter_le (fun x => n.testBit x) (List.range c)
        rw [List.length_range] at pl
        refine ⟨rfl, ?_⟩
        refine ⟨_, rfl, _, rfl, n, c, (by rw [e0]; rfl), _, rfl, ?_⟩
        refine ite2 (fun h' => ⟨_, rfl, _, hd, ?_, ?_, fun b o eb => ?_⟩) (fun h' => ⟨?_, s4⟩)
        · rw [List.length_map]; omega
        · rw [upd_same, e, if_pos h', List.map_append, e0]; rfl
        · rw [upd_ne (ne_of_none eb hD)]; exact s4 b o eb
        · rw [hd, e, if_neg h', List.append_nil]
      · rintro H4 ⟨hd, s4⟩
        have en : ((((ls.map V.ref).length : Nat) : Int)).toNat = st.length := by rw [hna]; simp
        rw [en, front_filter hn] at hd
        have s24 : Same H' H4 := s23.trans s4
        have nDf : D ≠ fq := fun e => by rw [e, s23 _ _ hF] at hD; cases hD
        refine ⟨fq, _, _, rfl, rfl, s24 _ _ hF, by rw [List.length_map, hl]; omega, ?_⟩
        refine ⟨as ++ [D], _, _, _, rfl, by rw [upd_same, List.map_append]; rfl, by simp [hl], fun b o e => by rw [upd_ne (ne_of_none e hfq)]; exact s24 _ _ (sm _ _ e), by rw [upd_ne nuf]; exact s24 _ _ hu, fun j hj => ?_⟩
        by_cases e : j = i
        · subst e
          exact ⟨D, by rw [List.getElem?_append_right (by omega), hl]; simp, nDf, by rw [upd_ne nDf]; exact hd⟩
        · obtain ⟨c, e1, e2, e3⟩ := hat j (by omega)
          exact ⟨c, by rw [List.getElem?_append_left (by omega)]; exact e1, e2, by rw [upd_ne e2]; exact s24 _ _ e3⟩
    · rintro σ H' ⟨as, o2, o3, o4, rfl, hF, hl, sm, hu, hat⟩
      rw [hul] at hl hat
      refine ⟨_, rfl, k H' fq sm hfq ⟨as, hF, by unfold frontsOf; rw [List.length_map, List.length_range, hl], fun j l e => ?_⟩⟩
      unfold frontsOf at e
      obtain ⟨j', ej, rfl⟩ := map_at e
      have hj : j < st.length := by
        have := (List.getElem?_eq_some_iff.mp ej).1
        rw [List.length_range] at this; exact this
      rw [List.getElem?_range hj] at ej
      cases ej
      obtain ⟨c, e1, _, e3⟩ := hat j hj
      exact ⟨c, e1, e3⟩
theorem gives_lt {rs : List RB} (wf : Wf rs) {b v : Nat} (h : Sc12.gives (abs rs) b v = true) : v < 32 := by
  unfold Sc12.gives at h
  rw [List.any_eq_true] at h
  obtain ⟨i, m, e⟩ := h
  by_cases hb : b < rs.length
  · obtain ⟨r, hr⟩ : ∃ r, rs[b]? = some r := ⟨_, List.getElem?_eq_getElem hb⟩
    rw [opsOf_abs hr] at m
    obtain ⟨q, mq, rfl⟩ := List.mem_map.mp m
    have o := (okS_iff ((wf.at_ r (List.mem_of_getElem? hr)).steps q mq)).pd
    have e : (absI q).d = v := by simpa using e
    have e : q.2.1.toNat = v := e
    omega
  · rw [opsOf_ge (by rw [abs_len]; omega)] at m
    simp at m
def MadeOf (s : Sc12.State) (ms : List Nat) : Prop := ms.length = s.length ∧ ∀ b, b < s.length → ∀ v, (ms.getD b 0).testBit v = true ↔ (b = 0 ∧ v < 32) ∨ Sc12.gives s b v = true
def spMade (A : Ad) : Sp := fun vs H Q _ => ∃ (p : Addr) (rs : List RB) (F : List Addr), vs = [.ref p] ∧ BodyAt A H p rs F ∧ Wf rs ∧ 0 < rs.length ∧ ∀ (H' : Hp) (q : Addr) (ms : List Nat), Same H H' → H q = none → H' q = some (.lst (ms.map natV)) → MadeOf (abs rs) ms → Q (.ref q) H'
theorem d_made_each (T : Txt K mg A) : Def P w K mg base 2 "made_each" ["body"] (spMade A) := by
  refine T.r_made_each.def sc_made_each (fun vs H Q E h => ?_) (fun f cdv A' outer s H vs Q E hr h => ?_)
  · obtain ⟨p, rs, F, rfl, _⟩ := h
    rfl
  · obtain ⟨p, rs, F, rfl, BA, wf, hpos, k⟩ := h
    have h64 := wf.len
    have hsl := abs_len rs
    have hline : (64 : Nat) < sizeLine := by decide
    have BA2 := BA
    obtain ⟨lb, bs, eF, B⟩ := BA2
    obtain ⟨dx, hp⟩ := B.ins
    have hbl : (bs.map fun b => V.ref b.1).length = rs.length := by rw [List.length_map, B.len]
    refine ⟨_, (pss_cons (ps_setLc (i := 1) (own := [("block", 2)]) rfl sc_made_each.nd rfl rfl (sw_true rfl rfl rfl (by decide +kernel)) (pi_list (pe_fld (pv 0) rfl)) (blkOk_by (N := ["body", "made", "block"]) (sc := defScope s_made_each) (by decide +kernel)) (fun _ _ _ _ _ => (pg_name (i := 2) sc_made_each.nd rfl (Or.inl rfl))) (fun _ _ _ _ _ => pts_nil) (fun _ _ _ _ _ => (pe_def (d_given_by T) hr (pa_cons (pv 2) pa_nil)))) (pss_cons (ps_asg (pe_op op_sub (pe_op op_shl pe_int (gl T.c_VARIABLES)) pe_int) (pg_sub (pv 1) pe_int set_list)) (pss_one (ps_ret (pv 1))))), ?_⟩
    refine ⟨_, rfl, p, _, _, _, _, rfl, hp, T.cl_Body, T.na_Body_blocks, lk_blocks, lb, rfl, ⟨_, SqL.of B.lst⟩, fun D hD => ?_⟩
    refine lc_list (K := K) (a := lb) (xs := bs.map fun b => V.ref b.1) (fun i H' => ∃ gs : List Nat, H' D = some (.lst (gs.map natV)) ∧ gs.length = i ∧ Same H H' ∧ ∀ b v, b < i → (gs.getD b 0).testBit v = Sc12.gives (abs rs) b v)
      ⟨[], upd_same, rfl, fun b o e => by rw [upd_ne (ne_of_none e hD)]; exact e, fun j x hj => absurd hj (Nat.not_lt_zero _)⟩ (fun i H' _ ⟨_, _, _, sm, _⟩ => SqL.of (sm _ _ B.lst)) ?_ ?_
    · rintro i y H' hj ⟨gs, hd, hl, sm, hat⟩
      obtain ⟨c, hc, rfl⟩ := map_at hj
      obtain ⟨r, hr, hB⟩ := B.blk hc
      have hi : i < rs.length := (List.getElem?_eq_some_iff.mp hr).1
      refine ⟨rfl, tYes_of ?_⟩
      refine ⟨_, rfl, c, r, rfl, hB.same sm, wf.at_ r (List.mem_of_getElem? hr), ?_⟩
      refine ⟨_, hd, by rw [List.length_map, hl]; omega, gs ++ [givenN r.steps], by rw [upd_same, List.map_append]; rfl, by simp [hl], fun b o e => by rw [upd_ne (ne_of_none e hD)]; exact sm _ _ e, fun b v hb => ?_⟩
      by_cases e : b = i
      · subst e
        have : (gs ++ [givenN r.steps]).getD b 0 = givenN r.steps := by rw [← hl]; exact getD_snoc
        rw [this, testBit_givenN]
        unfold Sc12.gives
        rw [opsOf_abs hr]
      · rw [getD_snoc_lt (by omega)]
        exact hat b v (by omega)
    rintro H2 ⟨gs, hd, hl, sm, hat⟩
    rw [hbl] at hl hat
    refine ⟨_, _, rfl, rfl, ⟨by decide, by decide, by decide⟩, _, _, rfl, rfl, ?_⟩
    refine ⟨_, rfl, D, _, _, 0, rfl, rfl, hd, ?_, ?_⟩
    · unfold ixN
      rw [if_pos (by omega), if_pos (by rw [List.length_map]; omega)]
      rfl
    · refine ⟨_, rfl, k _ D (gs.set 0 4294967295) (fun b o e => by rw [upd_ne (ne_of_none e hD)]; exact sm _ _ e) hD (by rw [upd_same, List.map_set]; rfl) ⟨by rw [List.length_set, hl, hsl], fun b hb v => ?_⟩⟩
      rw [hsl] at hb
      by_cases e : 0 = b
      · subst e
        rw [getD_set_self (by omega)]
        have : (4294967295 : Nat) = 2 ^ 32 - 1 := by decide
        rw [this, Nat.testBit_two_pow_sub_one, decide_eq_true_iff]
        exact ⟨fun h => .inl ⟨rfl, h⟩, fun h => h.elim (fun z => z.2) fun z => gives_lt wf z⟩
      · rw [getD_set_ne e, hat b v hb]
        exact ⟨.inr, fun h => h.elim (fun z => absurd z.1.symm e) id⟩
end BF
end


section
set_option Elab.async false
set_option linter.all false
set_option maxRecDepth 100000
set_option maxHeartbeats 4000000
namespace BF
open PySem PySem.Spec PyProof.Rows L2
variable {P : Program} {w : World} {K : PySem.W.Frag} {mg : Str → Option Value} {base : Heap} {A : Ad}
structure MeetInv (s : Sc12.State) (ms ks : List Nat) : Prop where
  l1 : ms.length = s.length
  l2 : ks.length = s.length
  m1 : ∀ b v, b < s.length → (ms.getD b 0).testBit v = true → Meet s v b
  m2 : ∀ b v, b < s.length → ((ks.getD b 0).testBit v = true ↔ (b = 0 ∧ v < 32) ∨ Sc12.gives s b v = true ∨ (ms.getD b 0).testBit v = true)
def ShutAt (s : Sc12.State) (ms ks : List Nat) (c : Nat) (l : List Nat) : Prop := ∀ b ∈ l, ∀ v, (ks.getD c 0).testBit v = true → Live s v b → (ms.getD b 0).testBit v = true
def metN (us ms ks : List Nat) (c b : Nat) : Nat := less (ks.getD c 0 &&& us.getD b 0) (ms.getD b 0)
section
variable {rs : List RB} {us ms ks : List Nat} {c b : Nat}
theorem front_over {s : Sc12.State} {b c : Nat} (h : b ∈ Sc12.front s c) : c ∈ Sc12.reached s := by
  obtain ⟨_, ⟨p, _, _, h4⟩, _⟩ := mem_front.mp h
  exact (over_reached h4).1
theorem met_bit (U : InsOf (abs rs) us) (hb : b < (abs rs).length) (v : Nat) : (metN us ms ks c b).testBit v = true ↔ ((ks.getD c 0).testBit v = true ∧ Live (abs rs) v b) ∧ (ms.getD b 0).testBit v = false := by
  unfold metN
  rw [testBit_less, testBit_andI, U.2 b hb v]
theorem MeetInv.turn (wf : Wf rs) (U : InsOf (abs rs) us) (M : MeetInv (abs rs) ms ks) (hc : c < (abs rs).length) (hf : b ∈ Sc12.front (abs rs) c) : MeetInv (abs rs) (ms.set b (ms.getD b 0 ||| metN us ms ks c b)) (ks.set b (ks.getD b 0 ||| metN us ms ks c b)) := by
  have h64 : (abs rs).length ≤ 64 := by rw [abs_len]; exact wf.len
  have hb : b < (abs rs).length := (mem_front.mp hf).1
  have hm : b < ms.length := by rw [M.l1]; exact hb
  have hk : b < ks.length := by rw [M.l2]; exact hb
  refine ⟨by rw [List.length_set]; exact M.l1, by rw [List.length_set]; exact M.l2, fun x v hx h => ?_, fun x v hx => ?_⟩
  · by_cases e : b = x
    · subst e
      rw [getD_set_self hm, testBit_orI, met_bit U hb] at h
      rcases h with h | ⟨⟨h1, h2⟩, _⟩
      · exact M.m1 b v hb h
      · have h2' := (in_iff h64).mpr h2
        rcases (M.m2 c v hc).mp h1 with ⟨e, _⟩ | h | h
        · exact .seed (front_over hf) (.inl e) hf h2'
        · exact .seed (front_over hf) (.inr h) hf h2'
        · exact .on (M.m1 c v hc h) hf h2'
    · rw [getD_set_ne e] at h
      exact M.m1 x v hx h
  · by_cases e : b = x
    · subst e
      rw [getD_set_self hm, getD_set_self hk, testBit_orI, testBit_orI, M.m2 b v hb, or_assoc, or_assoc]
    · rw [getD_set_ne e, getD_set_ne e]
      exact M.m2 x v hx
theorem met_up (x : Nat) (h : ∀ v, (metN us ms ks c b).testBit v = true → True) (hm : b < ms.length) (v : Nat) (q : (ms.getD x 0).testBit v = true) : ((ms.set b (ms.getD b 0 ||| metN us ms ks c b)).getD x 0).testBit v = true := by
  by_cases e : b = x
  · subst e
    rw [getD_set_self hm, testBit_orI]
    exact .inl q
  · rw [getD_set_ne e]; exact q
theorem met_grow (wf : Wf rs) (U : InsOf (abs rs) us) (M : MeetInv (abs rs) ms ks) (hb : b < (abs rs).length) (h : metN us ms ks c b ≠ 0) : tot ms < tot (ms.set b (ms.getD b 0 ||| metN us ms ks c b)) := by
  have hm : b < ms.length := by rw [M.l1]; exact hb
  obtain ⟨x, hx⟩ := bit_differs h
  have h1 : (metN us ms ks c b).testBit x = true := by
    cases e : (metN us ms ks c b).testBit x with
    | true => rfl
    | false => rw [e] at hx; simp at hx
  obtain ⟨⟨_, lv⟩, h2⟩ := (met_bit U hb x).mp h1
  have := live_lt wf lv
  have c' := card_lt (m := ms.getD b 0) (n := ms.getD b 0 ||| metN us ms ks c b) (fun y hy => (testBit_orI _ _ y).mpr (.inl hy)) (x := x) (by omega) h2 ((testBit_orI _ _ x).mpr (.inr h1))
  have t := tot_set ms b (ms.getD b 0 ||| metN us ms ks c b) hm
  omega
def MeetsOf (s : Sc12.State) (ms : List Nat) : Prop := ms.length = s.length ∧ ∀ b, b < s.length → ∀ v, (ms.getD b 0).testBit v = true ↔ Meet s v b
theorem MeetInv.done (wf : Wf rs) (M : MeetInv (abs rs) ms ks) (h : ∀ c, c < (abs rs).length → ShutAt (abs rs) ms ks c (Sc12.front (abs rs) c)) : MeetsOf (abs rs) ms := by
  have h64 : (abs rs).length ≤ 64 := by rw [abs_len]; exact wf.len
  refine ⟨M.l1, fun b hb v => ⟨M.m1 b v hb, fun q => ?_⟩⟩
  clear hb
  induction q with
  | @seed x b h1 h2 h3 h4 =>
    have hx := reached_lt h64 h1
    have lv := (in_iff h64).mp h4
    refine h x hx b h3 v ((M.m2 x v hx).mpr ?_) lv
    rcases h2 with h2 | h2
    · exact .inl ⟨h2, live_lt wf lv⟩
    · exact .inr (.inl h2)
  | @on x b h1 h3 h4 ih =>
    have hx := reached_lt h64 (front_over h3)
    exact h x hx b h3 v ((M.m2 x v hx).mpr (.inr (.inr ih))) ((in_iff h64).mp h4)
end
structure Mid (rs : List RB) (us : List Nat) (c : Nat) (j : Nat) (ms ks wl : List Nat) : Prop where
  M : MeetInv (abs rs) ms ks
  j1 : ∀ x, x < (abs rs).length → x ≠ c → x ∈ wl ∨ ShutAt (abs rs) ms ks x (Sc12.front (abs rs) x)
  j2 : c ∈ wl ∨ ShutAt (abs rs) ms ks c ((Sc12.front (abs rs) c).take j)
  w1 : ∀ x ∈ wl, x < (abs rs).length
  w2 : wl.length ≤ 64 + tot ms
theorem Mid.skip {rs : List RB} {us ms ks wl : List Nat} {c j b : Nat} (U : InsOf (abs rs) us) (D : Mid rs us c j ms ks wl) (hf : (Sc12.front (abs rs) c)[j]? = some b) (h : metN us ms ks c b = 0) : Mid rs us c (j + 1) ms ks wl := by
  have hb : b < (abs rs).length := (mem_front.mp (List.mem_of_getElem? hf)).1
  refine ⟨D.M, D.j1, D.j2.imp id fun q => ?_, D.w1, D.w2⟩
  intro x mx v h1 h2
  rw [take_snoc hf] at mx
  rcases List.mem_append.mp mx with mx | mx
  · exact q x mx v h1 h2
  · rw [List.mem_singleton.mp mx] at h2 ⊢
    cases e : (ms.getD b 0).testBit v with
    | true => rfl
    | false =>
      have := (met_bit (ms := ms) (ks := ks) (c := c) U hb v).mpr ⟨⟨h1, h2⟩, e⟩
      rw [h] at this; simp at this
theorem Mid.take {rs : List RB} {us ms ks wl : List Nat} {c j b : Nat} (wf : Wf rs) (U : InsOf (abs rs) us) (hc : c < (abs rs).length) (D : Mid rs us c j ms ks wl) (hf : (Sc12.front (abs rs) c)[j]? = some b) (h : metN us ms ks c b ≠ 0) :
    Mid rs us c (j + 1) (ms.set b (ms.getD b 0 ||| metN us ms ks c b)) (ks.set b (ks.getD b 0 ||| metN us ms ks c b)) (wl ++ [b]) := by
  have mf := List.mem_of_getElem? hf
  have hb : b < (abs rs).length := (mem_front.mp mf).1
  have hm : b < ms.length := by rw [D.M.l1]; exact hb
  have mb : b ∈ wl ++ [b] := List.mem_append_right _ (List.mem_singleton.mpr rfl)
  have up := fun x v => met_up (us := us) (ms := ms) (ks := ks) (c := c) (b := b) x (fun _ _ => trivial) hm v
  have keep : ∀ {x l}, x ≠ b → ShutAt (abs rs) ms ks x l → ShutAt (abs rs) (ms.set b (ms.getD b 0 ||| metN us ms ks c b)) (ks.set b (ks.getD b 0 ||| metN us ms ks c b)) x l := fun {x l} ne q y my v h1 h2 => by
    rw [getD_set_ne (fun e => ne e.symm)] at h1
    exact up y v (q y my v h1 h2)
  have gr := met_grow wf U D.M hb h
  refine ⟨D.M.turn wf U hc mf, fun x hx ne => ?_, ?_, fun x mx => ?_, ?_⟩
  · by_cases e : x = b
    · rw [e]; exact .inl mb
    · exact (D.j1 x hx ne).imp (List.mem_append_left _) (keep e)
  · by_cases e : c = b
    · rw [e]; exact .inl mb
    · refine D.j2.imp (List.mem_append_left _) fun q => ?_
      rw [take_snoc hf]
      intro x mx v h1 h2
      rcases List.mem_append.mp mx with mx | mx
      · exact keep e q x mx v h1 h2
      · rw [List.mem_singleton.mp mx] at h2 ⊢
        rw [getD_set_ne (fun z => e z.symm)] at h1
        rw [getD_set_self hm, testBit_orI]
        cases z : (ms.getD b 0).testBit v with
        | true => exact .inl rfl
        | false => exact .inr ((met_bit U hb v).mpr ⟨⟨h1, h2⟩, z⟩)
  · rcases List.mem_append.mp mx with mx | mx
    · exact D.w1 x mx
    · rw [List.mem_singleton.mp mx]; exact hb
  · have := D.w2
    rw [List.length_append, List.length_singleton]
    omega
def spMeets (A : Ad) : Sp := fun vs H Q _ => ∃ (p : Addr) (rs : List RB) (F : List Addr), vs = [.ref p] ∧ BodyAt A H p rs F ∧ Wf rs ∧ 0 < rs.length ∧ ∀ (H' : Hp) (q : Addr) (ms : List Nat), Same H H' → H q = none → H' q = some (.lst (ms.map natV)) → MeetsOf (abs rs) ms → Q (.ref q) H'
theorem tot_zero : ∀ n : Nat, tot (List.replicate n 0) = 0
  | 0 => rfl
  | n + 1 => by
    have := tot_zero n
    unfold tot at this ⊢
    rw [List.replicate_succ, List.map_cons, List.sum_cons, this]
    rfl
theorem getD_zero (n b : Nat) : (List.replicate n 0).getD b 0 = 0 := by
  rw [List.getD_eq_getElem?_getD, List.getElem?_replicate]
  split <;> rfl
theorem d_meet_each (T : Txt K mg A) : Def P w K mg base 6 "meet_each" ["body"] (spMeets A) := by
  refine T.r_meet_each.def sc_meet_each (fun vs H Q E h => ?_) (fun f cdv A' outer s H vs Q E hr h => ?_)
  · obtain ⟨p, rs, F, rfl, _⟩ := h
    rfl
  · obtain ⟨p, rs, F, rfl, BA, wf, hpos, k⟩ := h
    have h64 := wf.len
    have hsl := abs_len rs
    have h64' : (abs rs).length ≤ 64 := by rw [hsl]; exact h64
    have hline : (10000 : Nat) < sizeLine := by decide
    refine ⟨_, (pss_cons (ps_set (i := 1) sc_meet_each.nd rfl (Or.inl rfl) (pe_def (d_front_each T) hr (pa_cons (pe_def (d_behind_each T) hr (pa_cons (pv 0) pa_nil)) pa_nil))) (pss_cons (ps_set (i := 2) sc_meet_each.nd rfl (Or.inl rfl) (pe_def (d_in_each T) hr (pa_cons (pv 0) pa_nil))) (pss_cons (ps_set (i := 3) sc_meet_each.nd rfl (Or.inl rfl) (pe_def (d_made_each T) hr (pa_cons (pv 0) pa_nil))) (pss_cons (ps_setLc (i := 4) (own := [("block", 9)]) rfl sc_meet_each.nd rfl rfl (sw_true rfl rfl rfl (by decide +kernel)) (pi_list (pe_fld (pv 0) rfl)) (blkOk_by (N := ["body", "fronts", "ins", "made", "meets", "waiting", "c", "b", "met", "block"]) (sc := defScope s_meet_each) (by decide +kernel)) (fun _ _ _ _ _ => (pg_name (i := 9) sc_meet_each.nd rfl (Or.inl rfl))) (fun _ _ _ _ _ => pts_nil) (fun _ _ _ _ _ => pe_int)) (pss_cons (ps_set (i := 5) sc_meet_each.nd rfl (Or.inl rfl) (pe_listRange rfl T.b_list rfl T.b_range (pa_cons (pe_callB call_len_seq (by rfl) T.b_len bt_len (pa_cons (pv 4) pa_nil)) pa_nil))) (pss_cons (ps_while PassesOwn.never (pt_cmpR op_gt (pe_callB call_len_seq (by rfl) T.b_len bt_len (pa_cons (pv 5) pa_nil)) pe_int (nomark _)) (pss_cons (ps_set (i := 6) sc_meet_each.nd rfl (Or.inl rfl) (pe_bm0 PySem.F.plainAttrs_list PySem.F.slot_list_pop PySem.F.type_list_pop mt_pop (pv 5))) (pss_one (ps_for PassesOwn.never rfl (pi_list (pe_ix ix_list (pv 1) (pv 6) (fun _ _ => rfl))) (pg_name (i := 7) sc_meet_each.nd rfl (Or.inl rfl)) (pss_cons (ps_set (i := 8) sc_meet_each.nd rfl (Or.inl rfl) (pe_op op_and (pe_op op_and (pe_ix ix_list (pv 3) (pv 6) (fun _ _ => rfl)) (pe_ix ix_list (pv 2) (pv 7) (fun _ _ => rfl))) (pe_un un_inv (pe_ix ix_list (pv 4) (pv 7) (fun _ _ => rfl))))) (pss_one (ps_if (pt_cmpR op_ne (pv 8) pe_int (nomark _)) (pss_cons (ps_asg (pe_op op_or (pe_ix ix_list (pv 4) (pv 7) (fun _ _ => rfl)) (pv 8)) (pg_sub (pv 4) (pv 7) set_list)) (pss_cons (ps_asg (pe_op op_or (pe_ix ix_list (pv 3) (pv 7) (fun _ _ => rfl)) (pv 8)) (pg_sub (pv 3) (pv 7) set_list)) (pss_one (ps_expr (pe_bm PySem.F.plainAttrs_list PySem.F.slot_list_append PySem.F.type_list_append mt_append (pv 5) (pa_cons (pv 7) pa_nil)))))) pss_nil))))))) (pss_one (ps_ret (pv 4))))))))), ?_⟩
    refine ⟨_, rfl, p, rs, F, rfl, BA, wf, fun H1 lq s1 hlq hL => ?_⟩
    refine ⟨lq, abs rs, rfl, hL, h64', fun H2 fq s2 hfq hF => ?_⟩
    have s12 : Same H H2 := s1.trans s2
    refine ⟨_, rfl, p, rs, F, rfl, BA.same s12, wf, fun H3 iq us s3 hiq hI U => ?_⟩
    have s13 : Same H H3 := s12.trans s3
    have hF3 := hF.same s3
    refine ⟨_, rfl, p, rs, F, rfl, BA.same s13, wf, hpos, fun H4 kq ks0 s4 hkq hK MK => ?_⟩
    have s14 : Same H H4 := s13.trans s4
    have BA4 := BA.same s14
    obtain ⟨lb, bs, eF, B⟩ := BA4
    obtain ⟨dx, hp⟩ := B.ins
    have hbl : (bs.map fun b => V.ref b.1).length = rs.length := by rw [List.length_map, B.len]
    refine ⟨_, rfl, p, _, _, _, _, rfl, hp, T.cl_Body, T.na_Body_blocks, lk_blocks, lb, rfl, ⟨_, SqL.of B.lst⟩, fun mq hmq => ?_⟩
    have nkm : kq ≠ mq := ne_of_none hK hmq
    refine lc_list (K := K) (a := lb) (xs := bs.map fun b => V.ref b.1) (fun i H' => H' mq = some (.lst ((List.replicate i 0).map natV)) ∧ Same H4 H')
      ⟨upd_same, fun b o e => by rw [upd_ne (ne_of_none e hmq)]; exact e⟩ (fun i H' _ ⟨_, sm⟩ => SqL.of (sm _ _ B.lst)) ?_ ?_
    · rintro i y H' hj ⟨hd, sm⟩
      have hi : i < rs.length := by rw [← hbl]; exact (List.getElem?_eq_some_iff.mp hj).1
      refine ⟨rfl, tYes_of ?_⟩
      exact ⟨_, hd, by rw [List.length_map, List.length_replicate]; omega, by rw [upd_same, List.replicate_succ', List.map_append]; rfl, fun b o e => by rw [upd_ne (ne_of_none e hmq)]; exact sm _ _ e⟩
    rintro H5 ⟨hM5, s5⟩
    rw [hbl] at hM5
    have hml : (((List.replicate rs.length 0 : List Nat)).map natV).length = rs.length := by rw [List.length_map, List.length_replicate]
    refine ⟨_, rfl, mq, _, rfl, .inl (SqL.of hM5), rs.length, (by rw [hml]), by omega, fun wq hwq => ?_⟩
    have nmw : mq ≠ wq := ne_of_none hM5 hwq
    have nkw : kq ≠ wq := ne_of_none (s5 _ _ hK) hwq
    have fk : H3 kq = none := hkq
    have fm : H3 mq = none := s4.free hmq
    have fw : H3 wq = none := (s4.trans s5).free hwq
    have M0 : MeetInv (abs rs) (List.replicate rs.length 0) ks0 := by
      refine ⟨by rw [List.length_replicate, hsl], MK.1, fun b v hb h => ?_, fun b v hb => ?_⟩
      · rw [getD_zero] at h; simp at h
      · rw [MK.2 b hb v, getD_zero]; simp
    refine ⟨fun m σ H' => ∃ (ms ks wl : List Nat) (o1 o2 o3 : Option V), σ = [some (.ref p), some (.ref fq), some (.ref iq), some (.ref kq), some (.ref mq), some (.ref wq), o1, o2, o3, none] ∧ H' mq = some (.lst (ms.map natV)) ∧ H' kq = some (.lst (ks.map natV)) ∧ H' wq = some (.lst (wl.map natV)) ∧ Same H3 H' ∧ MeetInv (abs rs) ms ks ∧ (∀ x, x < (abs rs).length → x ∈ wl ∨ ShutAt (abs rs) ms ks x (Sc12.front (abs rs) x)) ∧ (∀ x ∈ wl, x < (abs rs).length) ∧ wl.length ≤ 64 + tot ms ∧ m = wl.length + 2 * (4096 - tot ms),
      ⟨_, _, ks0, List.range rs.length, none, none, none, rfl, by rw [upd_ne nmw]; exact hM5, by rw [upd_ne nkw]; exact s5 _ _ hK, upd_same, fun b o e => by rw [upd_ne (ne_of_none e fw)]; exact s5 _ _ (s4 _ _ e), M0, fun x hx => .inl (List.mem_range.mpr (by rw [← hsl]; exact hx)), fun x mx => by rw [hsl]; exact List.mem_range.mp mx, by rw [List.length_range]; omega, rfl⟩, ?_⟩
    rintro m σ H' ⟨ms, ks, wl, o1, o2, o3, rfl, hM, hKK, hW, sm, M, hall, hwl, hlen, rfl⟩
    refine ⟨_, rfl, wq, _, rfl, .inl (SqL.of hW), _, _, rfl, rfl, _, rfl, ?_⟩
    refine ite2 (fun h => ?_) (fun h => ?_)
    · have h := of_decide_eq_true h
      rw [List.length_map] at h
      obtain ⟨wl', c, rfl⟩ := snoc_of (l := wl) (by omega)
      refine ⟨fun σ' H'' => ∃ m', m' < (wl' ++ [c]).length + 2 * (4096 - tot ms) ∧ _, fun _ _ h => h, ?_⟩
      refine ⟨_, rfl, .inl ⟨rfl, _, SqL.of hW⟩, wq, _, natV c, rfl, rfl, hW, by simp, ?_⟩
      have ew : ((wl' ++ [c]).map natV).dropLast = wl'.map natV := by rw [List.map_append]; simp
      rw [ew]
      have hc : c < (abs rs).length := hwl c (List.mem_append_right _ (List.mem_singleton.mpr rfl))
      have sm2 : Same H3 (upd H' wq (.lst (wl'.map natV))) := fun b o e => by rw [upd_ne (ne_of_none e fw)]; exact sm b o e
      have D0 : Mid rs us c 0 ms ks wl' := by
        refine ⟨M, fun x hx ne => (hall x hx).imp (fun q => ?_) id, .inr fun b mb => by simp at mb, fun x mx => hwl x (List.mem_append_left _ mx), by simp at hlen; omega⟩
        rcases List.mem_append.mp q with q | q
        · exact q
        · exact absurd (List.mem_singleton.mp q) ne
      obtain ⟨as, hqf, hlf, hatf⟩ := lists_len (hF3.same sm2)
      obtain ⟨ca, eca, hca⟩ := hatf c hc
      have lf : ∀ {H'' : Hp}, Same H3 H'' → H'' ca = some (.lst ((Sc12.front (abs rs) c).map natV)) := fun {H''} sx => by
        obtain ⟨as', h1, _, h3⟩ := lists_len hF3
        obtain ⟨ca', e1, e2⟩ := h3 c hc
        have q1 := sm2 _ _ h1
        rw [hqf] at q1
        have q2 : as = as' := List.map_inj_right (f := V.ref) (fun a b e => V.ref.inj e) |>.mp (HO.lst.inj (Option.some.inj q1))
        rw [← q2, eca] at e1; cases e1
        exact sx _ _ e2
      refine ⟨_, rfl, _, rfl, fq, _, _, _, rfl, rfl, SqL.of hqf, at_of (j := c) rfl (by rw [List.getElem?_map, eca]; rfl), ca, rfl, ⟨_, SqL.of hca⟩, ?_⟩
      refine for_list (K := K) (a := ca) (xs := (Sc12.front (abs rs) c).map natV) (fun j σ H'' => ∃ (ms' ks' wl2 : List Nat) (o2 o3 : Option V), σ = [some (.ref p), some (.ref fq), some (.ref iq), some (.ref kq), some (.ref mq), some (.ref wq), some (natV c), o2, o3, none] ∧ H'' mq = some (.lst (ms'.map natV)) ∧ H'' kq = some (.lst (ks'.map natV)) ∧ H'' wq = some (.lst (wl2.map natV)) ∧ Same H3 H'' ∧ Mid rs us c j ms' ks' wl2 ∧ wl2.length + 2 * (4096 - tot ms') ≤ wl'.length + 2 * (4096 - tot ms))
        ⟨ms, ks, wl', o2, o3, rfl, by rw [upd_ne nmw]; exact hM, by rw [upd_ne nkw]; exact hKK, upd_same, sm2, D0, Nat.le_refl _⟩ (fun j σ H'' _ ⟨_, _, _, _, _, _, _, _, _, sx, _⟩ => SqL.of (lf sx)) ?_ ?_
      · rintro j y σ H'' hj ⟨ms', ks', wl2, o2, o3, rfl, hm2, hk2, hw2, sx, D, hle⟩
        obtain ⟨b, eb, rfl⟩ := map_at hj
        have hb : b < (abs rs).length := (mem_front.mp (List.mem_of_getElem? eb)).1
        have lm : b < ms'.length := by rw [D.M.l1]; exact hb
        have lk : b < ks'.length := by rw [D.M.l2]; exact hb
        have lc : c < ks'.length := by rw [D.M.l2]; exact hc
        refine ⟨_, rfl, _, rfl, kq, _, _, _, rfl, rfl, SqL.of hk2, nat_at lc, ?_⟩
        refine ⟨_, rfl, _, rfl, iq, _, _, _, rfl, rfl, SqL.of (sx _ _ hI), nat_at (by rw [U.1]; exact hb), _, _, rfl, rfl, ?_⟩
        refine ⟨_, rfl, _, rfl, mq, _, _, _, rfl, rfl, SqL.of hm2, nat_at lm, _, rfl, _, _, rfl, rfl, ?_⟩
        have et : Builtin.bitAnd (Builtin.bitAnd ((ks'.getD c 0 : Nat) : Int) ((us.getD b 0 : Nat) : Int)) (Builtin.bitNot ((ms'.getD b 0 : Nat) : Int)) = ((metN us ms' ks' c b : Nat) : Int) := by
          rw [and_nat, less_nat]; rfl
        show gName 8 (V.int (Builtin.bitAnd (Builtin.bitAnd _ _) (Builtin.bitNot _))) _ _ _
        rw [et]
        have tk := fun h => D.take wf U hc eb h
        have gr := fun h => met_grow wf U D.M hb h (c := c)
        have sk := fun h => D.skip U eb h
        generalize metN us ms' ks' c b = t at tk gr sk
        refine ⟨_, rfl, rfl, _, rfl, ?_⟩
        refine ite2 (fun h => ?_) (fun h => ?_)
        · have h : t ≠ 0 := fun e => by
            have z : decide (V.int (t : Int) = V.int 0) = false := by simpa using h
            exact of_decide_eq_false z (by rw [e]; rfl)
          refine ⟨_, rfl, _, rfl, mq, _, _, _, rfl, rfl, SqL.of hm2, nat_at lm, _, rfl, _, _, rfl, rfl, ?_⟩
          refine ⟨_, rfl, _, rfl, mq, _, _, b, rfl, rfl, hm2, ?_, ?_⟩
          · unfold ixN
            rw [if_pos (by omega), if_pos (by rw [List.length_map]; omega)]
            simp
          have e1 : (ms'.map natV).set b (V.int (Builtin.bitOr ((ms'.getD b 0 : Nat) : Int) (t : Int))) = (ms'.set b (ms'.getD b 0 ||| t)).map natV := by
            rw [or_nat, List.map_set]; rfl
          refine ⟨_, rfl, _, rfl, kq, _, _, _, rfl, rfl, SqL.of (by rw [upd_ne nkm]; exact hk2), nat_at lk, _, rfl, _, _, rfl, rfl, ?_⟩
          refine ⟨_, rfl, _, rfl, kq, _, _, b, rfl, rfl, (by rw [upd_ne nkm]; exact hk2), ?_, ?_⟩
          · unfold ixN
            rw [if_pos (by omega), if_pos (by rw [List.length_map]; omega)]
            simp
          have e2 : (ks'.map natV).set b (V.int (Builtin.bitOr ((ks'.getD b 0 : Nat) : Int) (t : Int))) = (ks'.set b (ks'.getD b 0 ||| t)).map natV := by
            rw [or_nat, List.map_set]; rfl
          have hw3 : (upd (upd H'' mq (.lst ((ms'.map natV).set b (V.int (Builtin.bitOr ((ms'.getD b 0 : Nat) : Int) (t : Int)))))) kq (.lst ((ks'.map natV).set b (V.int (Builtin.bitOr ((ks'.getD b 0 : Nat) : Int) (t : Int)))))) wq = some (.lst (wl2.map natV)) := by
            rw [upd_ne nkw.symm, upd_ne nmw.symm]; exact hw2
          have w2 := D.w2
          have tl := tot_le ms'
          rw [D.M.l1] at tl
          refine ⟨_, rfl, .inl ⟨rfl, _, SqL.of hw3⟩, _, rfl, wq, _, _, rfl, rfl, hw3, (by rw [List.length_map]; omega), ?_⟩
          refine ⟨ms'.set b (ms'.getD b 0 ||| t), ks'.set b (ks'.getD b 0 ||| t), wl2 ++ [b], some (natV b), some (natV t), rfl, ?_, ?_, ?_, ?_, tk h, ?_⟩
          · rw [upd_ne nmw, upd_ne nkm.symm, upd_same]; exact congrArg (fun z => some (HO.lst z)) e1
          · rw [upd_ne nkw, upd_same]; exact congrArg (fun z => some (HO.lst z)) e2
          · rw [upd_same, List.map_append]; rfl
          · exact fun x o e => by rw [upd_ne (ne_of_none e fw), upd_ne (ne_of_none e fk), upd_ne (ne_of_none e fm)]; exact sx x o e
          · have g2 := gr h
            have tl2 := tot_le (ms'.set b (ms'.getD b 0 ||| t))
            rw [List.length_set, D.M.l1] at tl2
            rw [List.length_append, List.length_singleton]
            omega
        · have h : t = 0 := by
            have z : decide (V.int (t : Int) = V.int 0) = true := by simpa using h
            have := V.int.inj (of_decide_eq_true z)
            omega
          exact ⟨ms', ks', wl2, some (natV b), some (natV t), rfl, hm2, hk2, hw2, sx, sk h, hle⟩
      · rintro σ H'' ⟨ms', ks', wl2, o2, o3, rfl, hm2, hk2, hw2, sx, D, hle⟩
        refine ⟨wl2.length + 2 * (4096 - tot ms'), by rw [List.length_append]; simp; omega, ms', ks', wl2, _, o2, o3, rfl, hm2, hk2, hw2, sx, D.M, fun x hx => ?_, D.w1, D.w2, rfl⟩
        by_cases e : x = c
        · subst e
          have := D.j2
          rw [List.length_map, List.take_length] at this
          exact this
        · exact D.j1 x hx e
    · have h0 : wl = [] := by
        cases wl with
        | nil => rfl
        | cons x l => exact absurd (decide_eq_true (by rw [List.length_map]; simp)) h
      subst h0
      refine ⟨_, rfl, k H' mq ms (s13.trans sm) (s13.free fm) hM (M.done wf fun c hc => ?_)⟩
      rcases hall c hc with q | q
      · simp at q
      · exact q
def meetS (rs : List RB) (b : Int) : Int := if hasB rs b = true then ((Sc12.set Sc12.VARS (Sc12.meets (abs rs) b.toNat) : Nat) : Int) else 0
theorem d_meet (T : Txt K mg A) : Def P w K mg base 7 "meet" ["body", "b"] (spNum A meetS) := by
  refine T.r_meet.def sc_meet (fun vs H Q E h => ?_) (fun f cdv A' outer s H vs Q E hr h => ?_)
  · obtain ⟨p, rs, F, b, rfl, _⟩ := h
    rfl
  · obtain ⟨p, rs, F, b, rfl, BA, wf, k⟩ := h
    have h64 : (abs rs).length ≤ 64 := by rw [abs_len]; exact wf.len
    have BA2 := BA
    obtain ⟨lb, bs, eF, B⟩ := BA2
    obtain ⟨dx, hp⟩ := B.ins
    refine ⟨_, (pss_cons (ps_if (pt_not (pt_val (pe_dm (pv 0) T.cl_Body (d_Body_has_block T) hr (pa_cons (pv 1) pa_nil)))) (pss_one (ps_ret pe_int)) pss_nil) (pss_one (ps_ret (pe_ix ix_list (pe_def (d_meet_each T) hr (pa_cons (pv 0) pa_nil)) (pv 1) (fun _ _ => rfl))))), ?_⟩
    refine ⟨_, rfl, p, dx, _, rfl, hp, rfl, _, rfl, p, rs, F, b, rfl, BA, _, rfl, ?_⟩
    refine ite2 (fun h1 => ?_) (fun h1 => ?_)
    · have h1 : hasB rs b = false := by simpa using h1
      exact Qi (k H (Same.refl H)) (by unfold meetS; rw [if_neg (by rw [h1]; simp)])
    have h1 : hasB rs b = true := by simpa using h1
    obtain ⟨j, rj, ej, ej2, hj, _⟩ := hasB_get h1
    subst ej
    have hjr := (List.getElem?_eq_some_iff.mp hj).1
    have hjl : j < (abs rs).length := by rw [abs_len]; exact hjr
    refine ⟨_, rfl, p, rs, F, rfl, BA, wf, by omega, fun H1 q us s1 hq hU U => ?_⟩
    refine ⟨_, rfl, q, _, _, _, rfl, rfl, SqL.of hU, nat_at (by rw [U.1]; exact hjl), ?_⟩
    refine Qi (k H1 s1) ?_
    unfold meetS
    rw [if_pos h1, ej2, ← vars_eq (n := us.getD j 0) fun x => ?_]
    rw [U.2 j hjl x, meets_iff h64]
    refine ⟨fun l => ⟨?_, l⟩, fun l => l.2⟩
    cases l with
    | seed _ _ _ h4 => exact live_lt wf ((in_iff h64).mp h4)
    | on _ _ h4 => exact live_lt wf ((in_iff h64).mp h4)
end BF
end


section
set_option Elab.async false
set_option linter.all false
set_option maxRecDepth 100000
set_option maxHeartbeats 4000000
namespace BF
open PySem PySem.Spec PyProof.Rows L2
variable {P : Program} {w : World} {K : PySem.W.Frag} {mg : Str → Option Value} {base : Heap} {A : Ad}
theorem if_val {c : Bool} {ta tb : TE} {σ : L2.St} {H : Hp} {Q : VK} (v : V) (h1 : c = true → ∀ Q : VK, Q v H → ta σ H Q) (h2 : c = false → ∀ Q : VK, Q v H → tb σ H Q) (k : Q v H) : if c = true then ta σ H Q else tb σ H Q := by
  cases c with
  | true => exact iteT (h1 rfl Q k)
  | false => exact iteF (h2 rfl Q k)
def MarkAt (st : List (Int × Int × Int × Int)) (e k v x : Nat) : Prop := ∃ q, st[k]? = some q ∧ q.2.1.toNat = v ∧ Sc12.through x ((st.drop (k + 1)).map absI) (e.testBit x) = true ∧ ¬ (q.1 = 4 ∧ q.2.2.1.toNat = x)
def othN (live : Nat) (q : Int × Int × Int × Int) : Nat := if q.1 = 4 then less live (2 ^ q.2.2.1.toNat) else live
theorem testBit_othN (live : Nat) (q : Int × Int × Int × Int) (x : Nat) : (othN live q).testBit x = true ↔ live.testBit x = true ∧ ¬ (q.1 = 4 ∧ q.2.2.1.toNat = x) := by
  unfold othN
  by_cases h : q.1 = 4
  · rw [if_pos h, testBit_less, Nat.testBit_two_pow, decide_eq_false_iff_not]
    simp [h]
  · rw [if_neg h]
    simp [h]
def MarkInv (st : List (Int × Int × Int × Int)) (e : Nat) (cs0 : List Nat) (i : Nat) (cs : List Nat) : Prop := cs.length = 32 ∧ ∀ v x, v < 32 → ((cs.getD v 0).testBit x = true ↔ (cs0.getD v 0).testBit x = true ∨ ∃ k, st.length - i ≤ k ∧ MarkAt st e k v x)
theorem MarkInv.start {st : List (Int × Int × Int × Int)} {e : Nat} {cs0 : List Nat} (h : cs0.length = 32) : MarkInv st e cs0 0 cs0 := by
  refine ⟨h, fun v x _ => ⟨.inl, fun q => q.elim id ?_⟩⟩
  rintro ⟨k, hk, q, hq, _⟩
  have := (List.getElem?_eq_some_iff.mp hq).1
  omega
theorem MarkInv.turn {st : List (Int × Int × Int × Int)} {e i : Nat} {cs0 cs : List Nat} {q : Int × Int × Int × Int} (ok : ∀ q ∈ st, okS q) (hi : i < st.length) (hq : st[st.length - 1 - i]? = some q) (M : MarkInv st e cs0 i cs) :
    MarkInv st e cs0 (i + 1) (cs.set q.2.1.toNat (cs.getD q.2.1.toNat 0 ||| othN (backN st e i) q)) := by
  have hd := (okS_iff (ok q (List.mem_of_getElem? hq))).pd
  have hl : q.2.1.toNat < cs.length := by rw [M.1]; omega
  have ed : st.length - i = (st.length - 1 - i) + 1 := by omega
  have hb : ∀ x, (othN (backN st e i) q).testBit x = true ↔ Sc12.through x ((st.drop (st.length - 1 - i + 1)).map absI) (e.testBit x) = true ∧ ¬ (q.1 = 4 ∧ q.2.2.1.toNat = x) := fun x => by
    rw [testBit_othN, testBit_backN ok, ed]
  refine ⟨by rw [List.length_set]; exact M.1, fun v x hv => ?_⟩
  have old := M.2 v x hv
  have sp : (∃ k, st.length - (i + 1) ≤ k ∧ MarkAt st e k v x) ↔ (∃ k, st.length - i ≤ k ∧ MarkAt st e k v x) ∨ MarkAt st e (st.length - 1 - i) v x := by
    constructor
    · rintro ⟨k, h1, h2⟩
      by_cases ek : k = st.length - 1 - i
      · rw [ek] at h2; exact .inr h2
      · exact .inl ⟨k, by omega, h2⟩
    · rintro (⟨k, h1, h2⟩ | h2)
      · exact ⟨k, by omega, h2⟩
      · exact ⟨_, by omega, h2⟩
  rw [sp]
  by_cases ev : q.2.1.toNat = v
  · rw [ev] at hl ⊢
    rw [getD_set_self hl, testBit_orI, old, hb, or_assoc]
    constructor
    · rintro (h | h | h)
      · exact .inl h
      · exact .inr (.inl h)
      · exact .inr (.inr ⟨q, hq, ev, h.1, h.2⟩)
    · rintro (h | h | ⟨q', hq', h1, h2, h3⟩)
      · exact .inl h
      · exact .inr (.inl h)
      · rw [hq] at hq'; cases hq'
        exact .inr (.inr ⟨h2, h3⟩)
  · rw [getD_set_ne ev, old]
    constructor
    · rintro (h | h)
      · exact .inl h
      · exact .inr (.inl h)
    · rintro (h | h | ⟨q', hq', h1, _⟩)
      · exact .inl h
      · exact .inr h
      · rw [hq] at hq'; cases hq'
        exact absurd h1 ev
def spMark (A : Ad) : Sp := fun vs H Q _ => ∃ (cq : Addr) (b : Addr × Addr) (r : RB) (live : Nat) (cs : List Nat), vs = [.ref cq, .ref b.1, natV live] ∧ BlockAt A H b r ∧ okB r ∧ H cq = some (.lst (cs.map natV)) ∧ cs.length = 32 ∧
  ∀ cs' : List Nat, cs'.length = 32 → (∀ v x, v < 32 → ((cs'.getD v 0).testBit x = true ↔ (cs.getD v 0).testBit x = true ∨ ∃ k, MarkAt r.steps (live ||| endN r) k v x)) → Q .non (upd H cq (.lst (cs'.map natV)))
theorem d_mark_steps (T : Txt K mg A) : Def P w K mg base 4 "mark_steps" ["clashes", "block", "live"] (spMark A) := by
  refine T.r_mark_steps.def sc_mark_steps (fun vs H Q E h => ?_) (fun f cdv A' outer s H vs Q E hr h => ?_)
  · obtain ⟨cq, b, r, live, cs, rfl, _⟩ := h
    rfl
  · obtain ⟨cq, b, r, live, cs, rfl, BA, ok, hC, hcl, k⟩ := h
    have BA2 := BA
    obtain ⟨lg, as, BI⟩ := BA2
    obtain ⟨dc, hi⟩ := BI.ins
    have hla : (as.map V.ref).length = r.steps.length := by rw [List.length_map, BI.len]
    have nl : b.2 ≠ cq := ne_of BI.lst hC (by
      intro z
      have z := HO.lst.inj z
      cases cs with
      | nil => simp at hcl
      | cons a l => cases as with
        | nil => simp at z
        | cons c l' => simp [natV] at z)
    have hls : ∀ {o}, (upd H cq o) b.2 = some (.lst (as.map V.ref)) := fun {o} => by rw [upd_ne nl]; exact BI.lst
    refine ⟨_, (pss_cons (ps_set (i := 2) sc_mark_steps.nd rfl (Or.inl rfl) (pe_op op_or (pv 2) (pe_def (d_used_by_end T) hr (pa_cons (pv 1) pa_nil)))) (pss_one (ps_for PassesOwn.never rfl (pi_reversed rfl T.b_reversed (pa_cons (pe_fld (pv 1) rfl) pa_nil)) (pg_tup rfl (pgs_cons (pg_name (i := 3) sc_mark_steps.nd rfl (Or.inl rfl)) (pgs_cons (pg_name (i := 4) sc_mark_steps.nd rfl (Or.inl rfl)) (pgs_cons (pg_name (i := 5) sc_mark_steps.nd rfl (Or.inl rfl)) (pgs_cons (pg_name (i := 6) sc_mark_steps.nd rfl (Or.inl rfl)) pgs_nil))))) (pss_cons (ps_set (i := 7) sc_mark_steps.nd rfl (Or.inl rfl) (pv 2)) (pss_cons (ps_if (pt_cmpR op_eq (pv 3) (gl T.c_COPY) (nomark _)) (pss_one (ps_set (i := 7) sc_mark_steps.nd rfl (Or.inl rfl) (pe_op op_and (pv 7) (pe_un un_inv (pe_op op_shl pe_int (pv 5)))))) pss_nil) (pss_cons (ps_asg (pe_op op_or (pe_ix ix_list (pv 0) (pv 4) (fun _ _ => rfl)) (pv 7)) (pg_sub (pv 0) (pv 4) set_list)) (pss_one (ps_set (i := 2) sc_mark_steps.nd rfl (Or.inl rfl) (pe_def (d_ahead_of_step T) hr (pa_cons (pv 2) (pa_cons (pv 3) (pa_cons (pv 4) (pa_cons (pv 5) (pa_cons (pv 6) pa_nil)))))))))))))), ?_⟩
    refine ⟨_, rfl, _, rfl, b, r, rfl, BA, ok, _, _, rfl, rfl, ?_⟩
    have e0 : Builtin.bitOr (live : Int) ((endN r : Nat) : Int) = ((live ||| endN r : Nat) : Int) := or_nat _ _
    show gName 2 (V.int (Builtin.bitOr _ _)) _ _ _
    rw [e0]
    generalize live ||| endN r = e at k
    refine ⟨_, rfl, b.1, _, dc, _, _, rfl, hi, T.cl_Block, T.na_Block_steps, lk_steps, b.2, _, rfl, SqL.of BI.lst, for_rev (K := K) (a := b.2) (xs := as.map V.ref) (fun i σ H' => ∃ (cs' : List Nat) (o1 o2 o3 o4 o5 : Option V), σ = [some (.ref cq), some (.ref b.1), some (natV (backN r.steps e i)), o1, o2, o3, o4, o5] ∧ H' = upd H cq (.lst (cs'.map natV)) ∧ MarkInv r.steps e cs i cs')
      ⟨cs, none, none, none, none, none, by rw [backN_zero]; rfl, (upd_id hC).symm, MarkInv.start hcl⟩ (fun i σ H' _ ⟨_, _, _, _, _, _, _, e, _⟩ => by rw [e]; exact SqL.of hls) ?_ ?_⟩
    · rintro i y σ H' hlt hj ⟨cs', o1, o2, o3, o4, o5, rfl, rfl, M⟩
      rw [hla] at hj hlt
      obtain ⟨c, hc, rfl⟩ := map_at hj
      obtain ⟨q, hq⟩ : ∃ q, r.steps[r.steps.length - 1 - i]? = some q := ⟨_, List.getElem?_eq_getElem (by omega)⟩
      obtain ⟨c', ec, hct⟩ := BI.at_ _ q hq
      rw [hc] at ec; cases ec
      have okq := ok.steps q (List.mem_of_getElem? hq)
      have hd := (okS_iff okq).pd
      have ncq : c ≠ cq := ne_of hct hC (by intro z; cases z)
      have hdl : q.2.1.toNat < cs'.length := by rw [M.1]; omega
      refine ⟨c, _, rfl, SqT.of (by rw [upd_ne ncq]; exact hct), rfl, _, _, rfl, _, _, rfl, _, _, rfl, _, _, rfl, rfl, ?_⟩
      refine ⟨_, rfl, _, rfl, rfl, _, rfl, ?_⟩
      refine ite_tail (fun σ' H2 => σ' = [some (.ref cq), some (.ref b.1), some (natV (backN r.steps e i)), some (.int q.1), some (.int q.2.1), some (.int q.2.2.1), some (.int q.2.2.2), some (natV (othN (backN r.steps e i) q))] ∧ H2 = upd H cq (.lst (cs'.map natV))) ?_ ?_ ?_
      · rintro σ' H2 ⟨rfl, rfl⟩
        refine ⟨_, rfl, _, rfl, cq, _, _, _, rfl, rfl, SqL.of upd_same, at_of (j := q.2.1.toNat) (v := natV (cs'.getD q.2.1.toNat 0)) (by omega) (by rw [List.getElem?_map, List.getD_eq_getElem?_getD, List.getElem?_eq_getElem hdl]; rfl), _, rfl, _, _, rfl, rfl, ?_⟩
        refine ⟨_, rfl, _, rfl, cq, _, _, q.2.1.toNat, rfl, rfl, upd_same, ?_, ?_⟩
        · unfold ixN
          rw [if_pos hd.1, if_pos (by rw [List.length_map]; omega)]
        refine ⟨_, rfl, _, rfl, _, rfl, _, rfl, _, rfl, backN r.steps e i, q, rfl, okq, ?_⟩
        refine ⟨cs'.set q.2.1.toNat (cs'.getD q.2.1.toNat 0 ||| othN (backN r.steps e i) q), some (.int q.1), some (.int q.2.1), some (.int q.2.2.1), some (.int q.2.2.2), some (natV (othN (backN r.steps e i) q)), ?_, ?_, M.turn ok.steps hlt hq⟩
        · rw [backN_succ hlt hq]; rfl
        · rw [upd_upd, List.map_set]
          show upd H cq (.lst ((cs'.map natV).set q.2.1.toNat (V.int (Builtin.bitOr ((cs'.getD q.2.1.toNat 0 : Nat) : Int) ((othN (backN r.steps e i) q : Nat) : Int))))) = _
          rw [or_nat]; rfl
      · intro h4 nx hn
        have h4 : q.1 = 4 := V.int.inj (of_decide_eq_true h4)
        have hx := isV_iff.mp (rd_x okq (by rw [h4]; decide))
        refine ⟨_, rfl, _, rfl, _, _, rfl, rfl, ⟨by omega, by omega, by decide⟩, _, rfl, _, _, rfl, rfl, hn _ _ ⟨?_, rfl⟩⟩
        show [some (V.ref cq), some (V.ref b.1), some (natV (backN r.steps e i)), some (V.int q.1), some (V.int q.2.1), some (V.int q.2.2.1), some (V.int q.2.2.2), some (V.int (Builtin.bitAnd ((backN r.steps e i : Nat) : Int) (Builtin.bitNot (1 * 2 ^ q.2.2.1.toNat))))] = _
        rw [shl_int hx.1, less_nat]
        unfold othN
        rw [if_pos h4]; rfl
      · intro h4
        have h4 : q.1 ≠ 4 := fun z => of_decide_eq_false h4 (by rw [z])
        refine ⟨?_, rfl⟩
        unfold othN
        rw [if_neg h4]; rfl
    · rintro σ H' ⟨cs', o1, o2, o3, o4, o5, rfl, rfl, M⟩
      rw [hla] at M
      refine k cs' M.1 fun v x hv => ?_
      rw [M.2 v x hv, Nat.sub_self]
      simp
def spBoth : Sp := fun vs H Q _ => ∃ (cq : Addr) (cs : List Nat), vs = [.ref cq] ∧ H cq = some (.lst (cs.map natV)) ∧ cs.length = 32 ∧
  ∀ (H' : Hp) (q : Addr) (fs : List Nat), Same H H' → H q = none → H' q = some (.lst (fs.map natV)) → fs.length = 32 → (∀ v, v < 32 → ∀ x, ((fs.getD v 0).testBit x = true ↔ x ≠ v ∧ ((cs.getD v 0).testBit x = true ∨ (x < 32 ∧ (cs.getD x 0).testBit v = true)))) → Q (.ref q) H'
theorem d_both_ways (T : Txt K mg A) : Def P w K mg base 2 "both_ways" ["clashes"] spBoth := by
  refine T.r_both_ways.def sc_both_ways (fun vs H Q E h => ?_) (fun f cdv A' outer s H vs Q E hr h => ?_)
  · obtain ⟨cq, cs, rfl, _⟩ := h
    rfl
  · obtain ⟨cq, cs, rfl, hC, hcl, k⟩ := h
    have hline : (64 : Nat) < sizeLine := by decide
    refine ⟨_, (pss_cons (ps_set (i := 1) sc_both_ways.nd rfl (Or.inl rfl) (pe_lst pa_nil)) (pss_cons (ps_for PassesOwn.never rfl (pi_range1 rfl T.b_range (pa_cons (gl T.c_VARIABLES) pa_nil)) (pg_name (i := 2) sc_both_ways.nd rfl (Or.inl rfl)) (pss_cons (ps_set (i := 3) sc_both_ways.nd rfl (Or.inl rfl) (pe_ix ix_list (pv 0) (pv 2) (fun _ _ => rfl))) (pss_cons (ps_for PassesOwn.never rfl (pi_range1 rfl T.b_range (pa_cons (gl T.c_VARIABLES) pa_nil)) (pg_name (i := 4) sc_both_ways.nd rfl (Or.inl rfl)) (pss_one (ps_if (pt_val (pe_def (d_holds T) hr (pa_cons (pe_ix ix_list (pv 0) (pv 4) (fun _ _ => rfl)) (pa_cons (pv 2) pa_nil)))) (pss_one (ps_set (i := 3) sc_both_ways.nd rfl (Or.inl rfl) (pe_op op_or (pv 3) (pe_op op_shl pe_int (pv 4))))) pss_nil))) (pss_one (ps_expr (pe_bm PySem.F.plainAttrs_list PySem.F.slot_list_append PySem.F.type_list_append mt_append (pv 1) (pa_cons (pe_op op_and (pv 3) (pe_un un_inv (pe_op op_shl pe_int (pv 2)))) pa_nil))))))) (pss_one (ps_ret (pv 1))))), ?_⟩
    refine ⟨Nat.zero_le _, fun fq hfq => ?_⟩
    have s0 : Same H (upd H fq (.lst [])) := fun x o e => by rw [upd_ne (ne_of_none e hfq)]; exact e
    refine ⟨_, rfl, by decide, by decide, for_range (n := 32) (fun v σ H' => ∃ (fs : List Nat) (o1 o2 o3 : Option V), σ = [some (.ref cq), some (.ref fq), o1, o2, o3] ∧ H' fq = some (.lst (fs.map natV)) ∧ Same H H' ∧ fs.length = v ∧ ∀ u, u < v → ∀ x, ((fs.getD u 0).testBit x = true ↔ x ≠ u ∧ ((cs.getD u 0).testBit x = true ∨ (x < 32 ∧ (cs.getD x 0).testBit u = true))))
      ⟨[], none, none, none, rfl, upd_same, s0, rfl, fun u hu => absurd hu (Nat.not_lt_zero _)⟩ ?_ ?_⟩
    · rintro v σ H' hv ⟨fs, o1, o2, o3, rfl, hF, sm, hl, hat⟩
      have ev : (0 : Int) + (v : Int) = (v : Int) := by omega
      rw [ev]
      refine ⟨_, rfl, _, rfl, cq, _, _, _, rfl, rfl, SqL.of (sm _ _ hC), nat_at (by rw [hcl]; exact hv), ?_⟩
      refine ⟨_, rfl, by decide, by decide, for_range (n := 32) (fun j σ H'' => ∃ (n : Nat) (o3 : Option V), σ = [some (.ref cq), some (.ref fq), some (natV v), some (natV n), o3] ∧ H'' = H' ∧ ∀ x, (n.testBit x = true ↔ (cs.getD v 0).testBit x = true ∨ (x < j ∧ (cs.getD x 0).testBit v = true)))
        ⟨cs.getD v 0, o3, rfl, rfl, fun x => by simp⟩ ?_ ?_⟩
      · rintro j σ H'' hj ⟨n, o3, rfl, rfl, hn⟩
        have ej : (0 : Int) + (j : Int) = (j : Int) := by omega
        rw [ej]
        refine ⟨_, rfl, _, rfl, cq, _, _, _, rfl, rfl, SqL.of (sm _ _ hC), nat_at (by rw [hcl]; exact hj), _, rfl, cs.getD j 0, v, rfl, _, rfl, ?_⟩
        have st : ∀ x, (x < j + 1 ∧ (cs.getD x 0).testBit v = true) ↔ (x < j ∧ (cs.getD x 0).testBit v = true) ∨ (x = j ∧ (cs.getD j 0).testBit v = true) := fun x => by
          constructor
          · rintro ⟨h1, h2⟩
            by_cases e : x = j
            · subst e; exact .inr ⟨rfl, h2⟩
            · exact .inl ⟨by omega, h2⟩
          · rintro (⟨h1, h2⟩ | ⟨h1, h2⟩)
            · exact ⟨by omega, h2⟩
            · subst h1; exact ⟨by omega, h2⟩
        refine ite2 (fun h => ?_) (fun h => ?_)
        · refine ⟨_, rfl, _, rfl, _, _, rfl, rfl, ⟨by omega, by omega, by decide⟩, _, _, rfl, rfl, ?_⟩
          refine ⟨n ||| 2 ^ j, some (natV j), ?_, rfl, fun x => ?_⟩
          · show [some (V.ref cq), some (V.ref fq), some (natV v), some (V.int (Builtin.bitOr (n : Int) (1 * 2 ^ ((j : Int)).toNat))), some (natV j)] = _
            rw [shl_nat, or_nat]; rfl
          · rw [testBit_put, hn, st, or_assoc]
            simp only [h, and_true]
        · refine ⟨n, some (natV j), rfl, rfl, fun x => ?_⟩
          rw [hn, st]
          simp only [h, Bool.false_eq_true, and_false, or_false]
      · rintro σ H'' ⟨n, o3, rfl, rfl, hn⟩
        refine ⟨_, rfl, .inl ⟨rfl, _, SqL.of hF⟩, _, rfl, _, rfl, _, _, rfl, rfl, ⟨by omega, by omega, by decide⟩, _, rfl, _, _, rfl, rfl, ?_⟩
        refine ⟨fq, _, _, rfl, rfl, hF, by rw [List.length_map, hl]; omega, ?_⟩
        refine ⟨fs ++ [less n (2 ^ v)], _, _, _, rfl, ?_, fun b o e => by rw [upd_ne (ne_of_none e hfq)]; exact sm _ _ e, by simp [hl], fun u hu x => ?_⟩
        · rw [upd_same, List.map_append]
          show some (HO.lst (fs.map natV ++ [V.int (Builtin.bitAnd (n : Int) (Builtin.bitNot (1 * 2 ^ ((v : Int)).toNat)))])) = _
          rw [shl_nat, less_nat]; rfl
        · by_cases e : u = v
          · subst e
            have : (fs ++ [less n (2 ^ u)]).getD u 0 = less n (2 ^ u) := by rw [← hl]; exact getD_snoc
            rw [this, testBit_less, hn, Nat.testBit_two_pow, decide_eq_false_iff_not]
            constructor
            · rintro ⟨h1, h2⟩; exact ⟨fun z => h2 z.symm, h1⟩
            · rintro ⟨h1, h2⟩; exact ⟨h2, fun z => h1 z.symm⟩
          · rw [getD_snoc_lt (by omega)]
            exact hat u (by omega) x
    · rintro σ H' ⟨fs, o1, o2, o3, rfl, hF, sm, hl, hat⟩
      exact ⟨_, rfl, k H' fq fs sm hfq hF hl hat⟩
end BF
end


section
set_option Elab.async false
set_option linter.all false
set_option maxRecDepth 100000
set_option maxHeartbeats 4000000
namespace BF
open PySem PySem.Spec PyProof.Rows L2
variable {P : Program} {w : World} {K : PySem.W.Frag} {mg : Str → Option Value} {base : Heap} {A : Ad}
def PushAt (s : Sc12.State) (b v x : Nat) : Prop := b ∈ Sc12.reached s ∧ ∃ i ins, (Sc12.opsOf s b)[i]? = some ins ∧ ins.d = v ∧ Sc12.through x ((Sc12.opsOf s b).drop (i + 1)) ((Sc12.endOf s b).uses x || Sc12.out s b x) = true ∧ ¬ (ins.op = 4 ∧ ins.x = x)
theorem push_at {s : Sc12.State} (hs : s.length ≤ 64) {v x : Nat} : Push s v x ↔ ∃ b, b < s.length ∧ PushAt s b v x := by
  constructor
  · rintro ⟨b, i, ins, hb, h1, h2, h3, h4⟩
    exact ⟨b, reached_lt hs hb, hb, i, ins, h1, h2, h3, h4⟩
  · rintro ⟨b, _, hb, i, ins, h1, h2, h3, h4⟩
    exact ⟨b, i, ins, hb, h1, h2, h3, h4⟩
theorem mark_push {rs : List RB} (wf : Wf rs) {b : Nat} {r : RB} (hr : rs[b]? = some r) (hb : b ∈ Sc12.reached (abs rs)) {e : Nat} (he : ∀ x, e.testBit x = ((Sc12.endOf (abs rs) b).uses x || Sc12.out (abs rs) b x)) (v x : Nat) : (∃ k, MarkAt r.steps e k v x) ↔ PushAt (abs rs) b v x := by
  have ok := wf.at_ r (List.mem_of_getElem? hr)
  unfold PushAt
  rw [opsOf_abs hr]
  have h4 : ∀ q ∈ r.steps, (q.1 = 4 ↔ (absI q).op = 4) := fun q m => by
    have := (okS_iff (ok.steps q m)).po
    show q.1 = 4 ↔ q.1.toNat = 4
    omega
  constructor
  · rintro ⟨k, q, hq, h1, h2, h3⟩
    refine ⟨hb, k, absI q, by rw [List.getElem?_map, hq]; rfl, h1, by rw [← List.map_drop, ← he]; exact h2, fun z => h3 ⟨(h4 q (List.mem_of_getElem? hq)).mpr z.1, z.2⟩⟩
  · rintro ⟨_, k, ins, hi, h1, h2, h3⟩
    obtain ⟨q, hq, rfl⟩ := map_at hi
    exact ⟨k, q, hq, h1, by rw [he, List.map_drop]; exact h2, fun z => h3 ⟨(h4 q (List.mem_of_getElem? hq)).mp z.1, z.2⟩⟩
theorem push_lt {rs : List RB} (wf : Wf rs) {b v x : Nat} (hb : b < rs.length) (h : PushAt (abs rs) b v x) : x < 32 := by
  have h64 : (abs rs).length ≤ 64 := by rw [abs_len]; exact wf.len
  obtain ⟨r, hr⟩ : ∃ r, rs[b]? = some r := ⟨_, List.getElem?_eq_getElem hb⟩
  have ok := wf.at_ r (List.mem_of_getElem? hr)
  obtain ⟨_, i, ins, _, _, h3, _⟩ := h
  rw [opsOf_abs hr, endOf_abs hr] at h3
  rcases through_uses h3 with ⟨j, m, q⟩ | q
  · have m := List.mem_of_mem_drop m
    obtain ⟨s, ms, rfl⟩ := List.mem_map.mp m
    exact uses_lt (ok.steps s ms) q
  · rw [Bool.or_eq_true] at q
    rcases q with q | q
    · exact endUses_lt ok.fin q
    · obtain ⟨c, _, l⟩ := (out_iff h64).mp q
      exact live_lt wf l
def ClashOf (s : Sc12.State) (fs : List Nat) : Prop := fs.length = 32 ∧ ∀ v, v < 32 → ∀ x, ((fs.getD v 0).testBit x = true ↔ x < 32 ∧ Sc12.clashBy s (Sc12.table s) v x = true)
def firstN (us : List Nat) (n : Nat) : Nat := if 0 < n then us.getD 0 0 else 0
def spClashes (A : Ad) : Sp := fun vs H Q _ => ∃ (p : Addr) (rs : List RB) (F : List Addr), vs = [.ref p] ∧ BodyAt A H p rs F ∧ Wf rs ∧ ∀ (H' : Hp) (q : Addr) (fs : List Nat), Same H H' → H q = none → H' q = some (.lst (fs.map natV)) → ClashOf (abs rs) fs → Q (.ref q) H'
theorem d_clash_each (T : Txt K mg A) : Def P w K mg base 6 "clash_each" ["body"] (spClashes A) := by
  refine T.r_clash_each.def sc_clash_each (fun vs H Q E h => ?_) (fun f cdv A' outer s H vs Q E hr h => ?_)
  · obtain ⟨p, rs, F, rfl, _⟩ := h
    rfl
  · obtain ⟨p, rs, F, rfl, BA, wf, k⟩ := h
    have h64 := wf.len
    have hsl := abs_len rs
    have h64' : (abs rs).length ≤ 64 := by rw [hsl]; exact h64
    have hline : (64 : Nat) < sizeLine := by decide
    refine ⟨_, (pss_cons (ps_set (i := 1) sc_clash_each.nd rfl (Or.inl rfl) (pe_def (d_behind_each T) hr (pa_cons (pv 0) pa_nil))) (pss_cons (ps_set (i := 2) sc_clash_each.nd rfl (Or.inl rfl) (pe_def (d_in_each T) hr (pa_cons (pv 0) pa_nil))) (pss_cons (ps_set (i := 3) sc_clash_each.nd rfl (Or.inl rfl) (pe_def (d_reached_without T) hr (pa_cons (pv 1) (pa_cons (gl T.c_NO_BLOCK) pa_nil)))) (pss_cons (ps_set (i := 4) sc_clash_each.nd rfl (Or.inr rfl) (pe_ifExp (pt_val (pe_dm (pv 0) T.cl_Body (d_Body_has_block T) hr (pa_cons pe_int pa_nil))) (pe_ix ix_list (pv 2) pe_int (fun _ _ => rfl)) pe_int)) (pss_cons (ps_setLc (i := 5) (own := [("v", 8)]) rfl sc_clash_each.nd rfl rfl (sw_true rfl rfl rfl (by decide +kernel)) (pi_range1 rfl T.b_range (pa_cons (gl T.c_VARIABLES) pa_nil)) (blkOk_by (N := ["body", "leads", "ins", "reached", "first", "clashes", "b", "block", "v"]) (sc := defScope s_clash_each) (by decide +kernel)) (fun _ _ _ _ _ => (pg_name (i := 8) sc_clash_each.nd rfl (Or.inl rfl))) (fun _ _ _ _ _ => pts_nil) (fun _ _ _ _ _ => (pe_ifExp (pt_val (pe_def (d_holds T) hr (pa_cons (pv 4) (pa_cons (pv 8) pa_nil)))) (pv 4) pe_int))) (pss_cons (ps_for PassesOwn.never rfl (pi_enum rfl T.b_enumerate (pa_cons (pe_fld (pv 0) rfl) pa_nil)) (pg_tup rfl (pgs_cons (pg_name (i := 6) sc_clash_each.nd rfl (Or.inl rfl)) (pgs_cons (pg_name (i := 7) sc_clash_each.nd rfl (Or.inl rfl)) pgs_nil))) (pss_one (ps_if (pt_val (pe_def (d_holds T) hr (pa_cons (pv 3) (pa_cons (pv 6) pa_nil)))) (pss_one (ps_expr (pe_def (d_mark_steps T) hr (pa_cons (pv 5) (pa_cons (pv 7) (pa_cons (pe_def (d_in_any T) hr (pa_cons (pv 2) (pa_cons (pe_ix ix_list (pv 1) (pv 6) (fun _ _ => rfl)) pa_nil))) pa_nil)))))) pss_nil))) (pss_one (ps_ret (pe_def (d_both_ways T) hr (pa_cons (pv 5) pa_nil)))))))))), ?_⟩
    refine ⟨_, rfl, p, rs, F, rfl, BA, wf, fun H1 lq s1 hlq hL => ?_⟩
    refine ⟨_, rfl, p, rs, F, rfl, BA.same s1, wf, fun H2 iq us s2 hiq hI U => ?_⟩
    refine ⟨_, rfl, lq, abs rs, -1, rfl, hL.same s2, h64', fun H3 re s3 hre => ?_⟩
    have s13 : Same H H3 := (s1.trans s2).trans s3
    have BA3 := BA.same s13
    have BA4 := BA3
    obtain ⟨lb, bs, eF, B⟩ := BA4
    obtain ⟨dx, hp⟩ := B.ins
    have hbl : (bs.map fun b => V.ref b.1).length = rs.length := by rw [List.length_map, B.len]
    have hI3 := s3 _ _ hI
    have hL3 := (hL.same s2).same s3
    refine ⟨_, rfl, p, dx, _, rfl, hp, rfl, p, rs, F, 0, rfl, BA3, _, rfl, ?_⟩
    refine if_val (natV (firstN us rs.length)) (fun h Q' k' => ?_) (fun h Q' k' => ?_) ?_
    · have h0 : 0 < rs.length := by unfold hasB at h; have := of_decide_eq_true h; omega
      unfold firstN at k'
      rw [if_pos h0] at k'
      exact ⟨_, rfl, iq, _, _, _, rfl, rfl, SqL.of hI3, nat_at (c := 0) (by rw [U.1, hsl]; exact h0), k'⟩
    · have h0 : ¬ 0 < rs.length := fun z => by unfold hasB at h; have := of_decide_eq_false h; omega
      unfold firstN at k'
      rw [if_neg h0] at k'
      exact k'
    have hfb : ∀ x, (firstN us rs.length).testBit x = true ↔ 0 < (abs rs).length ∧ Sc12.in_ (abs rs) 0 x = true := fun x => by
      unfold firstN
      by_cases h0 : 0 < rs.length
      · rw [if_pos h0, U.2 0 (by rw [hsl]; exact h0), in_iff h64', hsl]
        exact ⟨fun q => ⟨h0, q⟩, fun q => q.2⟩
      · rw [if_neg h0, hsl]
        exact ⟨fun q => by simp at q, fun q => absurd q.1 h0⟩
    generalize firstN us rs.length = fn at hfb
    refine ⟨_, rfl, by decide, by decide, fun cq hcq => ?_⟩
    refine lc_range (lo := 0) (n := 32) (fun i H' => ∃ cs : List Nat, H' cq = some (.lst (cs.map natV)) ∧ cs.length = i ∧ Same H3 H' ∧ ∀ v x, v < i → ((cs.getD v 0).testBit x = true ↔ fn.testBit v = true ∧ fn.testBit x = true))
      ⟨[], upd_same, rfl, fun b o e => by rw [upd_ne (ne_of_none e hcq)]; exact e, fun v x hv => absurd hv (Nat.not_lt_zero _)⟩ ?_ ?_
    · rintro i H' hi ⟨cs, hd, hl, sm, hat⟩
      have e0 : (0 : Int) + (i : Int) = (i : Int) := by omega
      refine ⟨rfl, tYes_of ?_⟩
      refine ⟨_, rfl, _, rfl, fn, i, (by rw [e0]; rfl), _, rfl, ?_⟩
      refine if_val (natV (if fn.testBit i = true then fn else 0)) (fun h Q' k' => ?_) (fun h Q' k' => ?_) ?_
      · rw [if_pos h] at k'
        exact ⟨_, rfl, k'⟩
      · rw [if_neg (by rw [h]; decide)] at k'
        exact k'
      refine ⟨_, hd, by rw [List.length_map, hl]; omega, cs ++ [if fn.testBit i = true then fn else 0], by rw [upd_same, List.map_append]; rfl, by simp [hl], fun b o e => by rw [upd_ne (ne_of_none e hcq)]; exact sm _ _ e, fun v x hv => ?_⟩
      by_cases e : v = i
      · subst e
        have : (cs ++ [if fn.testBit v = true then fn else 0]).getD v 0 = if fn.testBit v = true then fn else 0 := by rw [← hl]; exact getD_snoc
        rw [this]
        split
        · rename_i h; simp [h]
        · rename_i h; simp [h]
      · rw [getD_snoc_lt (by omega)]
        exact hat v x (by omega)
    rintro H4 ⟨cs0, hd4, hl4, s4, hat4⟩
    refine ⟨_, rfl, p, _, _, _, _, rfl, s4 _ _ hp, T.cl_Body, T.na_Body_blocks, lk_blocks, lb, _, rfl, SqL.of (s4 _ _ B.lst), for_enum (K := K) (a := lb) (xs := bs.map fun b => V.ref b.1) (fun i σ H' => ∃ (cs : List Nat) (o6 o7 : Option V), σ = [some (.ref p), some (.ref lq), some (.ref iq), some (natV re), some (natV fn), some (.ref cq), o6, o7, none] ∧ H' cq = some (.lst (cs.map natV)) ∧ cs.length = 32 ∧ Same H3 H' ∧ ∀ v x, v < 32 → ((cs.getD v 0).testBit x = true ↔ (fn.testBit v = true ∧ fn.testBit x = true) ∨ ∃ b, b < i ∧ PushAt (abs rs) b v x))
      ⟨cs0, none, none, rfl, hd4, hl4, s4, fun v x hv => by rw [hat4 v x hv]; exact ⟨.inl, fun q => q.elim id fun ⟨b, hb, _⟩ => absurd hb (Nat.not_lt_zero _)⟩⟩ (fun i σ H' _ ⟨_, _, _, _, _, _, sm, _⟩ => SqL.of (sm _ _ B.lst)) ?_ ?_⟩
    · rintro i y σ H' TT hj ⟨cs, o6, o7, rfl, hC, hcl, sm, hat⟩ hT
      obtain ⟨c, hc, rfl⟩ := map_at hj
      obtain ⟨r, hr, hB⟩ := B.blk hc
      have ok := wf.at_ r (List.mem_of_getElem? hr)
      have hi : i < rs.length := (List.getElem?_eq_some_iff.mp hr).1
      have his : i < (abs rs).length := by rw [hsl]; exact hi
      have hTc : TT ≠ cq := fun e => by rw [e, hC] at hT; cases hT
      have sT : Same H' (upd H' TT (.tup [.int (i : Int), .ref c.1])) := fun x o e => by rw [upd_ne (ne_of_none e hT)]; exact e
      have sm2 : Same H3 (upd H' TT (.tup [.int (i : Int), .ref c.1])) := sm.trans sT
      have hC2 := sT _ _ hC
      generalize hH2 : (upd H' TT (.tup [.int (i : Int), .ref c.1])) = HH at sm2 hC2
      have hT2 : HH TT = some (.tup [.int (i : Int), .ref c.1]) := by rw [← hH2]; exact upd_same
      refine ⟨TT, _, rfl, SqT.of hT2, rfl, _, _, rfl, _, _, rfl, rfl, ?_⟩
      refine ⟨_, rfl, _, rfl, re, i, rfl, _, rfl, ?_⟩
      have st : ∀ v x, (∃ b, b < i + 1 ∧ PushAt (abs rs) b v x) ↔ (∃ b, b < i ∧ PushAt (abs rs) b v x) ∨ PushAt (abs rs) i v x := fun v x => by
        constructor
        · rintro ⟨b, h1, h2⟩
          by_cases e : b = i
          · subst e; exact .inr h2
          · exact .inl ⟨b, by omega, h2⟩
        · rintro (⟨b, h1, h2⟩ | h2)
          · exact ⟨b, by omega, h2⟩
          · exact ⟨i, by omega, h2⟩
      refine ite2 (fun h => ?_) (fun h => ?_)
      · have hreach : i ∈ Sc12.reached (abs rs) := (RW_all h64').mp ((hre i).mp h)
        obtain ⟨as, hq, hlen, hatL⟩ := leads_len (hL3.same sm2)
        obtain ⟨ca, eca, hca⟩ := hatL i his
        refine ⟨_, rfl, _, rfl, _, rfl, _, rfl, _, rfl, lq, _, _, _, rfl, rfl, SqL.of hq, at_of (j := i) rfl (by rw [List.getElem?_map, eca]; rfl), ?_⟩
        refine ⟨iq, ca, us, Sc12.behind (abs rs) i, rfl, sm2 _ _ hI3, hca, fun x m => by rw [U.1]; exact behind_lt m, ?_⟩
        refine ⟨cq, c, r, anyN us (Sc12.behind (abs rs) i), cs, rfl, hB.same sm2, ok, hC2, hcl, fun cs' hl' hat' => ?_⟩
        refine ⟨cs', some (natV i), some (.ref c.1), rfl, upd_same, hl', fun b o e => by rw [upd_ne (ne_of_none e hcq)]; exact sm2 _ _ e, fun v x hv => ?_⟩
        rw [hat' v x hv, hat v x hv, st, or_assoc, mark_push wf hr hreach (fun x => ?_)]
        rw [Nat.testBit_or, testBit_endN ok.fin, endOf_abs hr, Bool.or_comm]
        congr 1
        rw [Bool.eq_iff_iff, testBit_anyN, out_iff h64']
        exact ⟨fun ⟨c, m, z⟩ => ⟨c, m, (U.2 c (behind_lt m) x).mp z⟩, fun ⟨c, m, z⟩ => ⟨c, m, (U.2 c (behind_lt m) x).mpr z⟩⟩
      · refine ⟨cs, some (natV i), some (.ref c.1), rfl, hC2, hcl, sm2, fun v x hv => ?_⟩
        rw [hat v x hv, st]
        have no : ¬ PushAt (abs rs) i v x := fun z => h ((hre i).mpr ((RW_all h64').mpr z.1))
        simp only [no, or_false]
    · rintro σ H' ⟨cs, o6, o7, rfl, hC, hcl, sm, hat⟩
      rw [hbl] at hat
      refine ⟨_, rfl, cq, cs, rfl, hC, hcl, fun H5 q fs s5 hq hfs hfl hfat => ?_⟩
      refine k H5 q fs ((s13.trans sm).trans s5) ((s13.trans sm).free hq) hfs ⟨hfl, fun v hv x => ?_⟩
      rw [hfat v hv x]
      have hP : ∀ v x, v < 32 → ((cs.getD v 0).testBit x = true ↔ (0 < (abs rs).length ∧ Sc12.in_ (abs rs) 0 v = true ∧ Sc12.in_ (abs rs) 0 x = true) ∨ Push (abs rs) v x) := fun v x hv => by
        rw [hat v x hv, hfb, hfb, push_at h64', hsl]
        constructor
        · rintro (⟨⟨h1, h2⟩, _, h3⟩ | h)
          · exact .inl ⟨h1, h2, h3⟩
          · exact .inr h
        · rintro (⟨h1, h2, h3⟩ | h)
          · exact .inl ⟨⟨h1, h2⟩, h1, h3⟩
          · exact .inr h
      have lt : (cs.getD v 0).testBit x = true → x < 32 := fun z => by
        rcases (hat v x hv).mp z with ⟨_, z⟩ | ⟨b, hb, z⟩
        · exact live_lt wf ((in_iff h64').mp ((hfb x).mp z).2)
        · exact push_lt wf hb z
      constructor
      · rintro ⟨h1, h2⟩
        have hx : x < 32 := h2.elim lt fun z => z.1
        refine ⟨hx, (clashBy_iff hv hx).mpr ⟨fun z => h1 z.symm, ?_⟩⟩
        rcases h2 with h2 | ⟨_, h2⟩
        · rcases (hP v x hv).mp h2 with z | z
          · exact .inl z
          · exact .inr (.inl z)
        · rcases (hP x v hx).mp h2 with z | z
          · exact .inl ⟨z.1, z.2.2, z.2.1⟩
          · exact .inr (.inr z)
      · rintro ⟨hx, h⟩
        obtain ⟨h1, h2⟩ := (clashBy_iff hv hx).mp h
        refine ⟨fun z => h1 z.symm, ?_⟩
        rcases h2 with z | z | z
        · exact .inl ((hP v x hv).mpr (.inl z))
        · exact .inl ((hP v x hv).mpr (.inr z))
        · exact .inr ⟨hx, (hP x v hx).mpr (.inr z)⟩
def clashS (rs : List RB) (v : Int) : Int := if isV v = true then ((Sc12.set Sc12.VARS (Sc12.clashBy (abs rs) (Sc12.table (abs rs)) v.toNat) : Nat) : Int) else 0
theorem d_clash (T : Txt K mg A) : Def P w K mg base 7 "clash" ["body", "v"] (spNum A clashS) := by
  refine T.r_clash.def sc_clash (fun vs H Q E h => ?_) (fun f cdv A' outer s H vs Q E hr h => ?_)
  · obtain ⟨p, rs, F, b, rfl, _⟩ := h
    rfl
  · obtain ⟨p, rs, F, v, rfl, BA, wf, k⟩ := h
    refine ⟨_, (pss_cons (ps_if (pt_not (pt_val (pe_def (d_is_variable T) hr (pa_cons (pv 1) pa_nil)))) (pss_one (ps_ret pe_int)) pss_nil) (pss_one (ps_ret (pe_ix ix_list (pe_def (d_clash_each T) hr (pa_cons (pv 0) pa_nil)) (pv 1) (fun _ _ => rfl))))), ?_⟩
    refine ⟨_, rfl, v, rfl, _, rfl, ?_⟩
    refine ite2 (fun h1 => ?_) (fun h1 => ?_)
    · have h1 : isV v = false := by simpa using h1
      exact Qi (k H (Same.refl H)) (by unfold clashS; rw [if_neg (by rw [h1]; simp)])
    have h1 : isV v = true := by simpa using h1
    have hv := isV_iff.mp h1
    refine ⟨_, rfl, p, rs, F, rfl, BA, wf, fun H1 q fs s1 hq hfs C => ?_⟩
    refine ⟨_, rfl, q, _, _, _, rfl, rfl, SqL.of hfs, at_of (j := v.toNat) (v := natV (fs.getD v.toNat 0)) (by omega) (by rw [List.getElem?_map, List.getD_eq_getElem?_getD, List.getElem?_eq_getElem (by rw [C.1]; omega)]; rfl), ?_⟩
    refine Qi (k H1 s1) ?_
    unfold clashS
    rw [if_pos h1, ← vars_eq (n := fs.getD v.toNat 0) fun x => ?_]
    exact C.2 v.toNat (by omega) x
end BF
end


section
set_option Elab.async false
set_option linter.all false
set_option maxRecDepth 100000
set_option maxHeartbeats 4000000
namespace BF
open PySem PySem.Spec PyProof.Rows L2
variable {P : Program} {w : World} {K : PySem.W.Frag} {mg : Str → Option Value} {base : Heap} {A : Ad}
def spLeast : Sp := fun vs H Q _ => ∃ (tq : Addr) (l : List Nat), vs = [.ref tq] ∧ H tq = some (.lst (l.map natV)) ∧ Q (natV (Sc12.least l)) H
theorem below_len {l : List Nat} {i : Nat} (h : ∀ j, j < i → j ∈ l) : i ≤ l.length := by
  have := nodup_sub (a := List.range i) (b := l) List.nodup_range fun x hx => h x (List.mem_range.mp hx)
  rw [List.length_range] at this
  exact this
theorem d_least_free (T : Txt K mg A) : Def P w K mg base 1 "least_free" ["taken"] spLeast := by
  refine T.r_least_free.def sc_least_free (fun vs H Q E h => ?_) (fun f cdv A' outer s H vs Q E hr h => ?_)
  · obtain ⟨tq, l, rfl, _⟩ := h
    rfl
  · obtain ⟨tq, l, rfl, hT, k⟩ := h
    refine ⟨_, (pss_cons (ps_set (i := 1) sc_least_free.nd rfl (Or.inl rfl) pe_int) (pss_cons (ps_while PassesOwn.never (pt_cmpR op_in_seq (pv 1) (pv 0) rfl) (pss_one (ps_set (i := 1) sc_least_free.nd rfl (Or.inl rfl) (pe_op op_add (pv 1) pe_int)))) (pss_one (ps_ret (pv 1))))), ?_⟩
    refine ⟨fun m σ H' => ∃ i : Nat, σ = [some (.ref tq), some (natV i)] ∧ H' = H ∧ (∀ j, j < i → j ∈ l) ∧ m = l.length + 1 - i, ⟨_, 0, rfl, rfl, fun j hj => absurd hj (Nat.not_lt_zero _), rfl⟩, ?_⟩
    rintro m σ H' ⟨i, rfl, rfl, hi, rfl⟩
    refine ⟨_, rfl, _, rfl, tq, _, rfl, .inl (SqL.of hT), rfl, flat_nat _, _, rfl, ?_⟩
    have ev : (if false = true then !inV (natV i) (l.map natV) else inV (natV i) (l.map natV)) = l.contains i := inV_nat i _
    rw [ev]
    refine ite2 (fun h => ?_) (fun h => ?_)
    · have h : i ∈ l := by rw [List.contains_iff_mem] at h; exact h
      have hi2 : ∀ j, j < i + 1 → j ∈ l := fun j hj => by
        by_cases e : j = i
        · rw [e]; exact h
        · exact hi j (by omega)
      have bl := below_len hi2
      refine ⟨fun σ' H'' => ∃ m', m' < l.length + 1 - i ∧ _, fun _ _ h => h, ?_⟩
      exact ⟨_, rfl, _, _, rfl, rfl, l.length + 1 - (i + 1), by omega, i + 1, rfl, rfl, hi2, rfl⟩
    · have h : i ∉ l := fun z => h (by rw [List.contains_iff_mem]; exact z)
      refine ⟨_, rfl, ?_⟩
      rw [← least_eq h hi]
      exact k
def regS (rs : List RB) (k : Int) : List Int := if 1 ≤ k ∧ k ≤ 32 then (if ((Sc12.taken (Sc12.registers (abs rs) 32) : Nat) : Int) ≤ k then ((Sc12.taken (Sc12.registers (abs rs) 32) : Nat) : Int) :: (Sc12.registers (abs rs) 32).map (fun r : Nat => (r : Int)) else [-1]) else [-2]
def spRegs (A : Ad) : Sp := fun vs H Q _ => ∃ (p : Addr) (rs : List RB) (F : List Addr) (n : Int), vs = [.ref p, .int n] ∧ BodyAt A H p rs F ∧ Wf rs ∧ ∀ (H' : Hp) (q : Addr), Same H H' → H q = none → H' q = some (.lst ((regS rs n).map V.int)) → Q (.ref q) H'
def takenL (s : Sc12.State) (l : List Nat) (v n : Nat) : List Nat := ((List.range n).filter fun x => Sc12.clashBy s (Sc12.table s) v x).map fun x => l.getD x 0
theorem takenL_snoc (s : Sc12.State) (l : List Nat) (v n : Nat) : takenL s l v (n + 1) = takenL s l v n ++ (if Sc12.clashBy s (Sc12.table s) v n = true then [l.getD n 0] else []) := by
  unfold takenL
  rw [List.range_succ, List.filter_append, List.filter_cons, List.filter_nil, List.map_append]
  split <;> rfl
theorem takenL_len (s : Sc12.State) (l : List Nat) (v n : Nat) : (takenL s l v n).length ≤ n := by
  unfold takenL
  rw [List.length_map]
  have := List.length_filter_le (fun x => Sc12.clashBy s (Sc12.table s) v x) (List.range n)
  rw [List.length_range] at this
  exact this
theorem max_taken {l : List Nat} {m : Int} (h1 : m ∈ l.map fun r : Nat => (r : Int)) (h2 : ∀ y ∈ l.map (fun r : Nat => (r : Int)), y ≤ m) : m + 1 = ((Sc12.taken l : Nat) : Int) := by
  obtain ⟨n, hn, rfl⟩ := List.mem_map.mp h1
  have a : Sc12.taken l ≤ n + 1 := taken_le.mpr fun r hr => by
    have := h2 _ (List.mem_map.mpr ⟨r, hr, rfl⟩)
    omega
  have b : n < Sc12.taken l := taken_le.mp (Nat.le_refl _) n hn
  omega
theorem d_registers (T : Txt K mg A) : Def P w K mg base 7 "registers" ["body", "k"] (spRegs A) := by
  refine T.r_registers.def sc_registers (fun vs H Q E h => ?_) (fun f cdv A' outer s H vs Q E hr h => ?_)
  · obtain ⟨p, rs, F, n, rfl, _⟩ := h
    rfl
  · obtain ⟨p, rs, F, n, rfl, BA, wf, k⟩ := h
    have hline : (64 : Nat) < sizeLine := by decide
    refine ⟨_, (pss_cons (ps_if (pt_not (pt_chain op_le op_le pe_int (pv 1) (gl T.c_VARIABLES))) (pss_one (ps_ret (pe_lst (pa_cons (gl T.c_REFUSED) pa_nil)))) pss_nil) (pss_cons (ps_set (i := 2) sc_registers.nd rfl (Or.inr rfl) (pe_def (d_clash_each T) hr (pa_cons (pv 0) pa_nil))) (pss_cons (ps_set (i := 3) sc_registers.nd rfl (Or.inr rfl) (pe_lst pa_nil)) (pss_cons (ps_for PassesOwn.never rfl (pi_range1 rfl T.b_range (pa_cons (gl T.c_VARIABLES) pa_nil)) (pg_name (i := 4) sc_registers.nd rfl (Or.inr rfl)) (pss_one (ps_expr (pe_bm PySem.F.plainAttrs_list PySem.F.slot_list_append PySem.F.type_list_append mt_append (pv 3) (pa_cons (pe_def (d_least_free T) hr (pa_cons (pe_lc (own := [("w", 6)]) rfl sc_registers.nd (pi_range1 rfl T.b_range (pa_cons (pv 4) pa_nil)) (blkOk_by (N := ["body", "k", "clashes", "places", "v", "many", "w"]) (sc := defScope s_registers) (by decide +kernel)) (fun _ _ _ _ _ => (pg_name (i := 6) sc_registers.nd rfl (Or.inl rfl))) (fun _ _ _ _ _ => (pts_one (pt_val (pe_def (d_holds T) hr (pa_cons (pe_ix (ix_listK (K := K)) (pv 2) (pv 4) (fun _ _ => rfl)) (pa_cons (pv 6) pa_nil)))))) (fun _ _ _ _ _ => (pe_ix (ix_listK (K := K)) (pv 3) (pv 6) (fun _ _ => rfl)))) pa_nil)) pa_nil))))) (pss_cons (ps_set (i := 5) sc_registers.nd rfl (Or.inl rfl) (pe_op op_add (pe_callB (cr_max rfl) (by rfl) T.b_max bt_max (pa_cons (pv 3) pa_nil)) pe_int)) (pss_one (ps_ret (pe_ifExp (pt_cmpR op_le (pv 5) (pv 1) (nomark _)) (pe_op op_cat (pe_lst (pa_cons (pv 5) pa_nil)) (pv 3)) (pe_lst (pa_cons (gl T.c_TOO_FEW) pa_nil)))))))))), ?_⟩
    have no : ¬ (1 ≤ n ∧ n ≤ 32) → tLst (tCons (tC (V.int (-2))) tNil) (start ["body", "k", "clashes", "places", "v", "many", "w"] [V.ref p, V.int n]) H Q := fun h => by
      refine ⟨(by show 1 ≤ sizeLine; decide), fun q hq => k _ q (fun b o e => by rw [upd_ne (ne_of_none e hq)]; exact e) hq ?_⟩
      rw [upd_same]
      unfold regS
      rw [if_neg h]; rfl
    refine ⟨_, rfl, _, _, rfl, rfl, _, rfl, ?_⟩
    refine ite2 (fun h1 => ?_) (fun h1 => ?_)
    rotate_left
    · refine ⟨_, rfl, ?_⟩
      have h1 : ¬ 1 ≤ n := fun z => h1 (decide_eq_true z)
      exact iteT (no fun z => h1 z.1)
    have h1 : 1 ≤ n := of_decide_eq_true h1
    refine ⟨_, _, rfl, rfl, _, rfl, ?_⟩
    refine ite2 (fun h2 => ?_) (fun h2 => ?_)
    · have h2 : ¬ n ≤ 32 := by
        intro z
        have : decide (n ≤ 32) = true := decide_eq_true z
        rw [this] at h2; cases h2
      exact no fun z => h2 z.2
    have h2 : n ≤ 32 := by
      refine Classical.byContradiction fun z => h2 ?_
      have : decide (n ≤ 32) = false := decide_eq_false z
      rw [this]; rfl
    refine ⟨_, rfl, p, rs, F, rfl, BA, wf, fun H1 cq fs s1 hcq hC C => ?_⟩
    refine ⟨Nat.zero_le _, fun pq hpq => ?_⟩
    have npc : cq ≠ pq := ne_of_none hC hpq
    have fp : H pq = none := s1.free hpq
    refine ⟨_, rfl, by decide, by decide, for_range (n := 32) (fun v σ H' => ∃ o4 : Option V, σ = [some (.ref p), some (.int n), some (.ref cq), some (.ref pq), o4, none, none] ∧ H' pq = some (.lst ((Sc12.registersBy (abs rs) (Sc12.table (abs rs)) v).map natV)) ∧ H' cq = some (.lst (fs.map natV)) ∧ Same H H')
      ⟨none, rfl, upd_same, by rw [upd_ne npc]; exact hC, fun b o e => by rw [upd_ne (ne_of_none e fp)]; exact s1 _ _ e⟩ ?_ ?_⟩
    · rintro v σ H' hv ⟨o4, rfl, hP, hC', sm⟩
      have ev : (0 : Int) + (v : Int) = (v : Int) := by omega
      rw [ev]
      have rl := registersBy_len (abs rs) (Sc12.table (abs rs)) v
      refine ⟨_, rfl, .inl ⟨rfl, _, SqL.of hP⟩, _, rfl, _, rfl, by omega, by omega, fun D hD => ?_⟩
      refine lc_range (lo := 0) (fun i H2 => H2 D = some (.lst ((takenL (abs rs) (Sc12.registersBy (abs rs) (Sc12.table (abs rs)) v) v i).map natV)) ∧ Same H' H2) ⟨upd_same, fun b o e => by rw [upd_ne (ne_of_none e hD)]; exact e⟩ ?_ ?_
      · rintro i H2 hi ⟨hd, s2⟩
        have hi : i < v := by simpa using hi
        have e0 : (0 : Int) + (i : Int) = (i : Int) := by omega
        have e := takenL_snoc (abs rs) (Sc12.registersBy (abs rs) (Sc12.table (abs rs)) v) v i
        have tl := takenL_len (abs rs) (Sc12.registersBy (abs rs) (Sc12.table (abs rs)) v) v i
        refine ⟨rfl, ?_⟩
        refine ⟨_, rfl, _, rfl, cq, _, _, _, rfl, rfl, SqL.of (s2 _ _ hC'), nat_at (by rw [C.1]; exact hv), _, rfl, fs.getD v 0, i, (by rw [e0]; rfl), _, rfl, ?_⟩
        have ec : (fs.getD v 0).testBit i = Sc12.clashBy (abs rs) (Sc12.table (abs rs)) v i := by
          rw [Bool.eq_iff_iff, C.2 v hv i]
          exact ⟨fun z => z.2, fun z => ⟨by omega, z⟩⟩
        rw [ec]
        refine ite2 (fun h' => ⟨_, rfl, _, rfl, pq, _, _, _, rfl, rfl, SqL.of (s2 _ _ hP), (by rw [e0]; exact nat_at (by rw [rl]; exact hi)), _, hd, ?_, ?_, fun b o eb => ?_⟩) (fun h' => ⟨?_, s2⟩)
        · rw [List.length_map]; omega
        · rw [upd_same, e, if_pos h', List.map_append]; rfl
        · rw [upd_ne (ne_of_none eb hD)]; exact s2 b o eb
        · rw [hd, e, if_neg h', List.append_nil]
      · rintro H2 ⟨hd, s2⟩
        have en : (((v : Nat) : Int)).toNat = v := by simp
        rw [en] at hd
        refine ⟨D, _, rfl, hd, ?_⟩
        refine ⟨pq, _, _, rfl, rfl, s2 _ _ hP, by rw [List.length_map, rl]; omega, ?_⟩
        refine ⟨some (natV v), rfl, ?_, by rw [upd_ne npc]; exact s2 _ _ hC', fun b o e => by rw [upd_ne (ne_of_none e fp)]; exact s2 _ _ (sm _ _ e)⟩
        rw [upd_same, registersBy_succ, List.map_append]
        rfl
    · rintro σ H' ⟨o4, rfl, hP, hC', sm⟩
      have rl := registersBy_len (abs rs) (Sc12.table (abs rs)) 32
      have hP2 : H' pq = some (.lst (((Sc12.registers (abs rs) 32).map fun r : Nat => (r : Int)).map V.int)) := by
        rw [hP, List.map_map]; rfl
      have rl2 : (Sc12.registers (abs rs) 32).length = 32 := rl
      refine ⟨_, rfl, pq, _, rfl, SqL.of hP2, by rw [List.length_map, rl2]; decide, fun m hm1 hm2 => ?_⟩
      have em := max_taken hm1 hm2
      refine ⟨_, _, rfl, rfl, ?_⟩
      show gName 5 (V.int (m + 1)) _ _ _
      rw [em]
      generalize ht : Sc12.taken (Sc12.registers (abs rs) 32) = t
      refine ⟨_, rfl, _, rfl, _, _, rfl, rfl, _, rfl, ?_⟩
      refine ite2 (fun h => ?_) (fun h => ?_)
      · have h : (t : Int) ≤ n := of_decide_eq_true h
        refine ⟨_, rfl, (by show 1 ≤ sizeLine; decide), fun q1 hq1 => ?_⟩
        have n1 : pq ≠ q1 := ne_of_none hP2 hq1
        refine ⟨_, rfl, q1, pq, _, _, rfl, rfl, upd_same, (by rw [upd_ne n1]; exact hP2), ?_, fun q2 hq2 => ?_⟩
        · rw [List.length_map, List.length_map, rl2]
          show 1 + 32 ≤ sizeLine
          decide
        have s5 : Same H' (upd H' q1 (.lst [V.int (t : Int)])) := fun b o e => by rw [upd_ne (ne_of_none e hq1)]; exact e
        refine k _ q2 (fun b o e => by rw [upd_ne (ne_of_none (s5 _ _ (sm _ _ e)) hq2)]; exact s5 _ _ (sm _ _ e)) (sm.free (s5.free hq2)) ?_
        rw [upd_same]
        unfold regS
        rw [if_pos ⟨h1, h2⟩, ht, if_pos h]
        rfl
      · have h : ¬ (t : Int) ≤ n := fun z => h (decide_eq_true z)
        refine ⟨(by show 1 ≤ sizeLine; decide), fun q hq => k _ q (fun b o e => by rw [upd_ne (ne_of_none (sm _ _ e) hq)]; exact sm _ _ e) (sm.free hq) ?_⟩
        rw [upd_same]
        unfold regS
        rw [if_pos ⟨h1, h2⟩, ht, if_neg h]; rfl
end BF
end


section
set_option Elab.async false
set_option linter.all false
set_option maxRecDepth 100000
set_option maxHeartbeats 4000000
namespace BF
open PySem PySem.Spec PyProof.Rows L2
variable {P : Program} {w : World} {K : PySem.W.Frag} {mg : Str → Option Value} {base : Heap} {A : Ad}
theorem whole_id (c : List (List Int)) : PySc12.whole c = c := by
  unfold PySc12.whole
  split <;> rfl
theorem shape_cases {p : Int} {n k : Nat} (h : PySc12.shape p = some (n, k)) : 0 ≤ p ∧ p ≤ 15 ∧ n ≤ 5 ∧ ((p = 15 ∧ n = 1 ∧ k = 1) ∨ (p ≠ 15 ∧ k = 0)) := by
  unfold PySc12.shape at h
  by_cases e : p = 0
  · rw [if_pos e] at h; cases h; subst e; decide
  rw [if_neg e] at h; clear e
  by_cases e : p = 1
  · rw [if_pos e] at h; cases h; subst e; decide
  rw [if_neg e] at h; clear e
  by_cases e : p = 2
  · rw [if_pos e] at h; cases h; subst e; decide
  rw [if_neg e] at h; clear e
  by_cases e : p = 3
  · rw [if_pos e] at h; cases h; subst e; decide
  rw [if_neg e] at h; clear e
  by_cases e : p = 4
  · rw [if_pos e] at h; cases h; subst e; decide
  rw [if_neg e] at h; clear e
  by_cases e : p = 5
  · rw [if_pos e] at h; cases h; subst e; decide
  rw [if_neg e] at h; clear e
  by_cases e : p = 6
  · rw [if_pos e] at h; cases h; subst e; decide
  rw [if_neg e] at h; clear e
  by_cases e : p = 7
  · rw [if_pos e] at h; cases h; subst e; decide
  rw [if_neg e] at h; clear e
  by_cases e : p = 8
  · rw [if_pos e] at h; cases h; subst e; decide
  rw [if_neg e] at h; clear e
  by_cases e : p = 9
  · rw [if_pos e] at h; cases h; subst e; decide
  rw [if_neg e] at h; clear e
  by_cases e : p = 10
  · rw [if_pos e] at h; cases h; subst e; decide
  rw [if_neg e] at h; clear e
  by_cases e : p = 11
  · rw [if_pos e] at h; cases h; subst e; decide
  rw [if_neg e] at h; clear e
  by_cases e : p = 12
  · rw [if_pos e] at h; cases h; subst e; decide
  rw [if_neg e] at h; clear e
  by_cases e : p = 13
  · rw [if_pos e] at h; cases h; subst e; decide
  rw [if_neg e] at h; clear e
  by_cases e : p = 14
  · rw [if_pos e] at h; cases h; subst e; decide
  rw [if_neg e] at h; clear e
  by_cases e : p = 15
  · rw [if_pos e] at h; cases h; subst e; decide
  rw [if_neg e] at h; clear e
  cases h
def numbersTab : List Int := [0, 0, 5, 2, 4, 2, 2, 1, 1, 1, 1, 1, 1, 1, 1, 1]
theorem shape_tab {p : Int} {n k : Nat} (h : PySc12.shape p = some (n, k)) : numbersTab[p.toNat]? = some (n : Int) := by
  unfold PySc12.shape at h
  by_cases e : p = 0
  · rw [if_pos e] at h; cases h; subst e; rfl
  rw [if_neg e] at h; clear e
  by_cases e : p = 1
  · rw [if_pos e] at h; cases h; subst e; rfl
  rw [if_neg e] at h; clear e
  by_cases e : p = 2
  · rw [if_pos e] at h; cases h; subst e; rfl
  rw [if_neg e] at h; clear e
  by_cases e : p = 3
  · rw [if_pos e] at h; cases h; subst e; rfl
  rw [if_neg e] at h; clear e
  by_cases e : p = 4
  · rw [if_pos e] at h; cases h; subst e; rfl
  rw [if_neg e] at h; clear e
  by_cases e : p = 5
  · rw [if_pos e] at h; cases h; subst e; rfl
  rw [if_neg e] at h; clear e
  by_cases e : p = 6
  · rw [if_pos e] at h; cases h; subst e; rfl
  rw [if_neg e] at h; clear e
  by_cases e : p = 7
  · rw [if_pos e] at h; cases h; subst e; rfl
  rw [if_neg e] at h; clear e
  by_cases e : p = 8
  · rw [if_pos e] at h; cases h; subst e; rfl
  rw [if_neg e] at h; clear e
  by_cases e : p = 9
  · rw [if_pos e] at h; cases h; subst e; rfl
  rw [if_neg e] at h; clear e
  by_cases e : p = 10
  · rw [if_pos e] at h; cases h; subst e; rfl
  rw [if_neg e] at h; clear e
  by_cases e : p = 11
  · rw [if_pos e] at h; cases h; subst e; rfl
  rw [if_neg e] at h; clear e
  by_cases e : p = 12
  · rw [if_pos e] at h; cases h; subst e; rfl
  rw [if_neg e] at h; clear e
  by_cases e : p = 13
  · rw [if_pos e] at h; cases h; subst e; rfl
  rw [if_neg e] at h; clear e
  by_cases e : p = 14
  · rw [if_pos e] at h; cases h; subst e; rfl
  rw [if_neg e] at h; clear e
  by_cases e : p = 15
  · rw [if_pos e] at h; cases h; subst e; rfl
  rw [if_neg e] at h; clear e
  cases h
structure OneCall (p : Int) (r : List Int) (n : Nat) (c : List (List Int)) (t : List Int) : Prop where
  shape : ∃ k, PySc12.shape p = some (n, k)
  le : n ≤ r.length
  way : (p ≠ 15 ∧ c = [p :: r.take n] ∧ t = r.drop n) ∨ (p = 15 ∧ ∃ m u, r.drop n = m :: u ∧ 0 ≤ m ∧ m.toNat ≤ u.length ∧ c = [p :: r.take n, u.take m.toNat] ∧ t = u.drop m.toNat)
theorem parse_one {p : Int} {r t : List Int} {c : List (List Int)} (h : PyFlat.call PySc12.shape (p :: r) = some (c, t)) : ∃ n, OneCall p r n c t := by
  unfold PyFlat.call at h
  dsimp only at h
  cases e : PySc12.shape p with
  | none => rw [e] at h; cases h
  | some nk =>
    obtain ⟨n, k⟩ := nk
    rw [e] at h
    dsimp only at h
    split at h
    · cases h
    rename_i hn
    obtain ⟨_, _, _, hk⟩ := shape_cases e
    refine ⟨n, ⟨k, e⟩, by omega, ?_⟩
    rcases hk with ⟨h15, h1, rfl⟩ | ⟨h15, rfl⟩
    · right
      refine ⟨h15, ?_⟩
      cases q : r.drop n with
      | nil => rw [q] at h; simp [PyFlat.rows, PyFlat.row] at h
      | cons m u =>
        rw [q] at h
        simp only [PyFlat.rows, PyFlat.row] at h
        split at h
        · cases h
        · rename_i heq
          split at heq
          · cases heq
          · rename_i heq2
            split at heq2
            · cases heq2
              cases heq
              rename_i hm
              cases h
              exact ⟨m, u, rfl, hm.1, hm.2, rfl, rfl⟩
            · cases heq2
    · left
      simp only [PyFlat.rows] at h
      cases h
      exact ⟨h15, rfl, rfl⟩
theorem parse_step {f : Nat} {p : Int} {r : List Int} {cs : List (List (List Int))} (h : PyFlat.calls PySc12.shape f (p :: r) = some cs) : ∃ (n : Nat) (c : List (List Int)) (t : List Int) (cs' : List (List (List Int))) (f' : Nat), OneCall p r n c t ∧ cs = c :: cs' ∧ PyFlat.calls PySc12.shape f' t = some cs' := by
  cases f with
  | zero => simp [PyFlat.calls] at h
  | succ f =>
    simp only [PyFlat.calls] at h
    split at h
    · cases h
    · rename_i c t e
      split at h
      · cases h
      · rename_i cs' e2
        cases h
        obtain ⟨n, o⟩ := parse_one e
        exact ⟨n, c, t, cs', f, o, rfl, e2⟩
theorem told_cons (a : List Int) (l : List (List Int)) : PyFlat.told (a :: l) = ((a.length : Int) :: a) ++ PyFlat.told l := by
  unfold PyFlat.told; rw [List.flatMap_cons]
def spAnswer (A : Ad) : Sp := fun vs H Q _ => ∃ (p nq rq : Addr) (rs : List RB) (F : List Addr) (call : Int) (ns row : List Int) (c : List (List Int)), vs = [.ref p, .int call, .ref nq, .ref rq] ∧ BodyAt A H p rs F ∧ Wf rs ∧ H nq = some (.lst (ns.map V.int)) ∧ H rq = some (.lst (row.map V.int)) ∧
  ((call ≠ 15 ∧ c = [call :: ns]) ∨ (call = 15 ∧ c = [call :: ns, row])) ∧ 0 ≤ call ∧ call ≤ 15 ∧ Sc12Neutral.asked1 c = true ∧
  ∀ (H' : Hp) (F' : List Addr) (q : Addr) (rs' : List RB) (ans : List Int), BodyAt A H' p rs' F' → Wf rs' → Keeps F H H' → Fresh H F F' → (∀ b o, H b = some o → b ∉ F → b ≠ q) → q ∉ F' → H' q = some (.lst (ans.map V.int)) → Sc12Neutral.step (abs rs) c = (abs rs', ans) → ans.length ≤ 33 → Q (.ref q) H'
def spAns (K : PySem.W.Frag) : Sp := fun vs H Q _ => ∃ (a : Addr) (ns : List Int), vs = [.ref a] ∧ SqL K H a (ns.map V.int) ∧ ns.length ≤ 16000 ∧ PySc12.answers_asked ns = true ∧ ∀ (H' : Hp) (p : Addr), H' p = some (.lst ((PySc12.answers ns).map V.int)) → Q (.ref p) H'
theorem cut_nat (ns : List Int) (i j : Nat) (hi : i ≤ j) : cutV (ns.map V.int) (some ((i : Nat) : Int)) (some ((j : Nat) : Int)) = ((ns.drop i).take (j - i)).map V.int := by
  unfold cutV
  rw [HT.sIx_nat, HT.sIx_nat, List.map_take, List.map_drop, List.length_map]
  by_cases h1 : i ≤ ns.length
  · rw [Nat.min_eq_left h1]
    by_cases h2 : j ≤ ns.length
    · rw [Nat.min_eq_left h2]
    · rw [Nat.min_eq_right (by omega)]
      rw [List.take_of_length_le (i := ns.length - i) (by simp), List.take_of_length_le (by simp; omega)]
  · rw [Nat.min_eq_right (by omega), Nat.min_eq_right (by omega), List.drop_of_length_le (by simp), List.drop_of_length_le (by simp; omega)]
    simp
theorem BodyAt.keepOut {H H' : Hp} {p : Addr} {rs : List RB} {F : List Addr} {g : Addr} {xs : List V} (B : BodyAt A H p rs F) (kp : ∀ b o, H b = some o → b ≠ g → H' b = some o) (hg : g ∉ F) (h : H g = some (.lst xs)) : BodyAt A H' p rs F := by
  obtain ⟨lb, bs, rfl, B⟩ := B
  have n1 : p ≠ g := fun e => hg (by rw [e]; exact List.mem_cons_self ..)
  have n2 : lb ≠ g := fun e => hg (by rw [e]; exact List.mem_cons_of_mem _ (List.mem_cons_self ..))
  refine ⟨lb, bs, rfl, B.nd, let ⟨dx, e⟩ := B.ins; ⟨dx, kp _ _ e n1⟩, kp _ _ B.lst n2, B.len, fun i r e => ?_⟩
  obtain ⟨b, e1, e2⟩ := B.at_ i r e
  have m := List.mem_of_getElem? e1
  have n3 : b.1 ≠ g := fun e => hg (by rw [← e]; exact List.mem_cons_of_mem _ (List.mem_cons_of_mem _ (List.mem_append_left _ (List.mem_map.mpr ⟨b, m, rfl⟩))))
  have n4 : b.2 ≠ g := fun e => hg (by rw [← e]; exact List.mem_cons_of_mem _ (List.mem_cons_of_mem _ (List.mem_append_right _ (List.mem_map.mpr ⟨b, m, rfl⟩))))
  exact ⟨b, e1, e2.keep (x := g) (y := g) (fun c o e n _ => kp c o e n) h h (fun l q => by cases q) (fun l q => by cases q) n3 n3 n4 n4⟩
theorem BodyAt.tracked {H : Hp} {p : Addr} {rs : List RB} {F : List Addr} (B : BodyAt A H p rs F) : ∀ c ∈ F, ∃ o, H c = some o ∧ ∀ ns : List Int, ns ≠ [] → o ≠ .lst (ns.map V.int) := by
  obtain ⟨lb, bs, rfl, B⟩ := B
  intro c hc
  rcases List.mem_cons.mp hc with rfl | hc
  · obtain ⟨dx, hp⟩ := B.ins
    exact ⟨_, hp, fun ns _ q => by cases q⟩
  rcases List.mem_cons.mp hc with rfl | hc
  · refine ⟨_, B.lst, fun ns hn q => ?_⟩
    have q := HO.lst.inj q
    cases ns with
    | nil => exact hn rfl
    | cons z l => cases bs <;> simp at q
  rcases List.mem_append.mp hc with hc | hc
  all_goals
    obtain ⟨b, hb, rfl⟩ := List.mem_map.mp hc
    obtain ⟨i, hi⟩ := List.getElem?_of_mem hb
    have hlt : i < rs.length := by rw [← B.len]; exact (List.getElem?_eq_some_iff.mp hi).1
    obtain ⟨b', e1, lg', as', BB'⟩ := B.at_ i _ (List.getElem?_eq_getElem hlt)
    rw [hi] at e1; cases e1
  · obtain ⟨d, e⟩ := BB'.ins; exact ⟨_, e, fun ns _ q => by cases q⟩
  · refine ⟨_, BB'.lst, fun ns hn q => ?_⟩
    have q := HO.lst.inj q
    cases ns with
    | nil => exact hn rfl
    | cons z l => cases as' <;> simp at q
end BF
end


section
set_option Elab.async false
set_option linter.all false
set_option maxRecDepth 100000
set_option maxHeartbeats 4000000
namespace BF
open PySem PySem.Spec PyProof.Rows L2
variable {P : Program} {w : World} {K : PySem.W.Frag} {mg : Str → Option Value} {base : Heap} {A : Ad}
structure Ahead (ns : List Int) (place : Nat) (rs : List RB) (G : List Int) (cs : List (List (List Int))) : Prop where
  le : place ≤ ns.length
  parse : ∃ f, PyFlat.calls PySc12.shape f (ns.drop place) = some cs
  asked : ∀ c ∈ cs, Sc12Neutral.asked1 c = true
  len : G.length ≤ 34 * place
  eq : PySc12.answers ns = G ++ PyFlat.told (PyFlat.played Sc12Neutral.step (abs rs) cs)
theorem Ahead.start {ns : List Int} (h : PySc12.answers_asked ns = true) : ∃ cs, Ahead ns 0 [] [] cs := by
  unfold PySc12.answers_asked at h
  split at h
  · cases h
  · rename_i raw e
    simp only [Bool.and_eq_true] at h
    obtain ⟨⟨⟨_, _⟩, h3⟩, _⟩ := h
    have em : raw.map PySc12.whole = raw := by
      rw [List.map_congr_left (g := id) fun c _ => whole_id c, List.map_id]
    rw [em] at h3
    unfold Sc12Neutral.asked at h3
    simp only [Bool.and_eq_true] at h3
    refine ⟨raw, Nat.zero_le _, ⟨_, e⟩, fun c m => List.all_eq_true.mp h3.1.1 c m, Nat.zero_le _, ?_⟩
    unfold PySc12.answers PySc12.calls
    rw [e]
    dsimp only
    rw [em]
    rfl
theorem Ahead.next {ns : List Int} {place : Nat} {rs : List RB} {G : List Int} {cs : List (List (List Int))} (h : Ahead ns place rs G cs) (hp : place < ns.length) : ∃ (p : Int) (n past : Nat) (c : List (List Int)) (row : List Int) (cs' : List (List (List Int))), ns[place]? = some p ∧ (∃ k, PySc12.shape p = some (n, k)) ∧ 0 ≤ p ∧ p ≤ 15 ∧ Sc12Neutral.asked1 c = true ∧
    place + 1 + n ≤ ns.length ∧ ((p ≠ 15 ∧ c = [p :: (ns.drop (place + 1)).take n] ∧ past = place + 1 + n ∧ row = []) ∨ (p = 15 ∧ ∃ m : Int, ns[place + 1 + n]? = some m ∧ 0 ≤ m ∧ place + 1 + n + 1 + m.toNat ≤ ns.length ∧ row = (ns.drop (place + 1 + n + 1)).take m.toNat ∧ c = [p :: (ns.drop (place + 1)).take n, row] ∧ past = place + 1 + n + 1 + m.toNat)) ∧ place < past ∧
    ∀ (rs' : List RB) (ans : List Int), Sc12Neutral.step (abs rs) c = (abs rs', ans) → ans.length ≤ 33 → Ahead ns past rs' (G ++ ((ans.length : Int) :: ans)) cs' := by
  obtain ⟨f, hf⟩ := h.parse
  have ed : ns.drop place = ns[place] :: ns.drop (place + 1) := List.drop_eq_getElem_cons hp
  rw [ed] at hf
  obtain ⟨n, c, t, cs', f', o, ec, ht⟩ := parse_step hf
  have sh := o.shape
  obtain ⟨k, hk⟩ := sh
  obtain ⟨p0, p15, _, _⟩ := shape_cases hk
  have hn := o.le
  rw [List.length_drop] at hn
  have hlen : place + 1 + n ≤ ns.length := by omega
  have hask : Sc12Neutral.asked1 c = true := h.asked c (by rw [ec]; exact List.mem_cons_self ..)
  have fin : ∀ past, t = ns.drop past → past ≤ ns.length → place < past → ∀ (rs' : List RB) (ans : List Int), Sc12Neutral.step (abs rs) c = (abs rs', ans) → ans.length ≤ 33 → Ahead ns past rs' (G ++ ((ans.length : Int) :: ans)) cs' := fun past et hle hlt rs' ans hst hal => by
    refine ⟨hle, ⟨f', by rw [← et]; exact ht⟩, fun c' m => h.asked c' (by rw [ec]; exact List.mem_cons_of_mem _ m), ?_, ?_⟩
    · have := h.len
      simp
      omega
    · rw [h.eq, ec]
      show G ++ PyFlat.told ((Sc12Neutral.step (abs rs) c).2 :: PyFlat.played Sc12Neutral.step (Sc12Neutral.step (abs rs) c).1 cs') = _
      rw [hst, told_cons]
      simp
  rcases o.way with ⟨h15, e1, e2⟩ | ⟨h15, m, u, e1, hm, hmu, e2, e3⟩
  · have et : t = ns.drop (place + 1 + n) := by rw [e2, List.drop_drop]
    exact ⟨ns[place], n, place + 1 + n, c, [], cs', List.getElem?_eq_getElem hp, ⟨k, hk⟩, p0, p15, hask, hlen, .inl ⟨h15, e1, rfl, rfl⟩, by omega, fin _ et hlen (by omega)⟩
  · rw [List.drop_drop] at e1
    have hl : place + 1 + n < ns.length := by
      refine Classical.byContradiction fun z => ?_
      rw [List.drop_of_length_le (by omega)] at e1
      cases e1
    rw [List.drop_eq_getElem_cons hl] at e1
    injection e1 with e11 e12
    have hu : u.length = ns.length - (place + 1 + n + 1) := by rw [← e12, List.length_drop]
    have et : t = ns.drop (place + 1 + n + 1 + m.toNat) := by rw [e3, ← e12, List.drop_drop]
    refine ⟨ns[place], n, place + 1 + n + 1 + m.toNat, c, u.take m.toNat, cs', List.getElem?_eq_getElem hp, ⟨k, hk⟩, p0, p15, hask, hlen, .inr ⟨h15, m, ?_, hm, by omega, by rw [e12], e2, rfl⟩, by omega, fin _ et (by omega) (by omega)⟩
    rw [List.getElem?_eq_getElem hl, e11]
theorem answers_ok (T : Txt K mg A) (htab : ∀ H : Hp, SqT K H A.NUMBERS_OF (numbersTab.map V.int)) (d_answer : ∀ (_ : Txt K mg A), Def P w K mg base 9 "answer" ["body", "call", "numbers", "row"] (spAnswer A)) {f : Addr} {fd : FuncData} (F : Fun K "answers" "answers" s_answers f fd) : FnOk P w K mg base CX0 12 f fd ["calls"] (spAns K) := by
  refine F.ok sc_answers (fun vs H Q E h => ?_) (fun cdv A' outer s H vs Q E hr h => ?_)
  · obtain ⟨a, ns, rfl, _⟩ := h
    rfl
  · obtain ⟨a, ns, rfl, hS, hlen, hask, k⟩ := h
    refine ⟨_, (pss_cons (ps_set (i := 1) sc_answers.nd rfl (Or.inl rfl) (pe_new0 (d_Body_new T) hr)) (pss_cons (ps_set (i := 2) sc_answers.nd rfl (Or.inl rfl) (pe_lst pa_nil)) (pss_cons (ps_set (i := 3) sc_answers.nd rfl (Or.inl rfl) pe_int) (pss_cons (ps_while PassesOwn.never (pt_cmpR op_lt (pv 3) (pe_callB call_len_seq (by rfl) T.b_len bt_len (pa_cons (pv 0) pa_nil)) (nomark _)) (pss_cons (ps_set (i := 4) sc_answers.nd rfl (Or.inl rfl) (pe_ix ix_list (pv 0) (pv 3) (fun _ _ => rfl))) (pss_cons (ps_set (i := 5) sc_answers.nd rfl (Or.inl rfl) (pe_op op_add (pe_op op_add (pv 3) pe_int) (pe_ix ix_tup (gl T.t_NUMBERS_OF) (pv 4) (fun _ _ => rfl)))) (pss_cons (ps_set (i := 6) sc_answers.nd rfl (Or.inl rfl) (pe_slice sl_list (pv 0) (po_some (pe_op op_add (pv 3) pe_int)) (po_some (pv 5)))) (pss_cons (ps_set (i := 7) sc_answers.nd rfl (Or.inl rfl) (pe_lst pa_nil)) (pss_cons (ps_if (pt_cmpR op_eq (pv 4) (gl T.c_RUN) (nomark _)) (pss_cons (ps_set (i := 7) sc_answers.nd rfl (Or.inl rfl) (pe_slice sl_list (pv 0) (po_some (pe_op op_add (pv 5) pe_int)) (po_some (pe_op op_add (pe_op op_add (pv 5) pe_int) (pe_ix ix_list (pv 0) (pv 5) (fun _ _ => rfl)))))) (pss_one (ps_set (i := 5) sc_answers.nd rfl (Or.inl rfl) (pe_op op_add (pe_op op_add (pv 5) pe_int) (pe_callB call_len_seq (by rfl) T.b_len bt_len (pa_cons (pv 7) pa_nil)))))) pss_nil) (pss_cons (ps_set (i := 8) sc_answers.nd rfl (Or.inl rfl) (pe_def (d_answer T) hr (pa_cons (pv 1) (pa_cons (pv 4) (pa_cons (pv 6) (pa_cons (pv 7) pa_nil)))))) (pss_cons (ps_expr (pe_bm PySem.F.plainAttrs_list PySem.F.slot_list_append PySem.F.type_list_append mt_append (pv 2) (pa_cons (pe_callB call_len_seq (by rfl) T.b_len bt_len (pa_cons (pv 8) pa_nil)) pa_nil))) (pss_cons (ps_expr (pe_bm PySem.F.plainAttrs_list PySem.F.slot_list_extend PySem.F.type_list_extend mt_extend (pv 2) (pa_cons (pv 8) pa_nil))) (pss_one (ps_set (i := 3) sc_answers.nd rfl (Or.inl rfl) (pv 5)))))))))))) (pss_one (ps_ret (pv 2))))))), ?_⟩
    intro x dx nx ndx nex
    refine ⟨x, dx, rfl, upd_same, fun H1 lb hlb B kp => ⟨rfl, ?_⟩⟩
    have s1 : Same H H1 := Same.made nx ndx kp
    refine ⟨Nat.zero_le _, fun g hg => ?_⟩
    have xlb : lb ≠ x := fun e => by rw [e, upd_same] at hlb; cases hlb
    have nlb : H lb = none := by
      have : lb ≠ dx := fun e => by rw [e, upd_ne nex, upd_same] at hlb; cases hlb
      rw [upd_ne xlb, upd_ne this] at hlb; exact hlb
    obtain ⟨cs0, ah0⟩ := Ahead.start hask
    obtain ⟨dx1, hx1⟩ := B.ins
    have gx : g ≠ x := fun e => by rw [e, hx1] at hg; cases hg
    have glb : g ≠ lb := fun e => by rw [e, B.lst] at hg; cases hg
    have s2 : Same H1 (upd H1 g (.lst [])) := fun b o e => by rw [upd_ne (ne_of_none e hg)]; exact e
    have ng : H g = none := s1.free hg
    refine ⟨fun m σ H' => ∃ (place : Nat) (rs : List RB) (F : List Addr) (G : List Int) (cs : List (List (List Int))) (o1 o2 o3 o4 o5 : Option V), σ = [some (.ref a), some (.ref x), some (.ref g), some (.int (place : Int)), o1, o2, o3, o4, o5] ∧ m = ns.length - place ∧ BodyAt A H' x rs F ∧ Wf rs ∧ g ∉ F ∧ (∀ c ∈ F, H c = none) ∧ H' g = some (.lst (G.map V.int)) ∧ Same H H' ∧ Ahead ns place rs G cs,
      ⟨_, 0, [], [x, lb], [], cs0, none, none, none, none, none, rfl, rfl, ⟨lb, [], rfl, B.same s2⟩, ⟨Nat.zero_le _, fun r m => absurd m (by simp)⟩, by simp [gx, glb], fun c hc => by
        rcases List.mem_cons.mp hc with rfl | hc
        · exact nx
        · rw [List.mem_singleton.mp hc]; exact nlb, upd_same, s1.trans s2, ah0⟩, ?_⟩
    rintro m σ H2 ⟨place, rs, F, G, cs, o1, o2, o3, o4, o5, rfl, rfl, BA, wf, gF, fF, hG, sm, ah⟩
    have hS2 := sm.seq hS
    refine ⟨_, rfl, _, rfl, a, _, rfl, .inl hS2, _, _, rfl, rfl, _, rfl, ?_⟩
    refine ite2 (fun h => ?_) (fun h => ?_)
    · have hp : place < ns.length := by
        have := of_decide_eq_true h
        rw [List.length_map] at this
        omega
      obtain ⟨p, n, past, c, row, cs', hpl, ⟨kk, hshape⟩, p0, p15, hask1, hpn, hway, hpast, hnext⟩ := ah.next hp
      refine ⟨fun σ' H'' => ∃ m', m' < ns.length - place ∧ _, fun _ _ h => h, ?_⟩
      refine ⟨_, rfl, _, rfl, a, _, _, _, rfl, rfl, hS2, at_of (j := place) rfl (by rw [List.getElem?_map, hpl]; rfl), ?_⟩
      refine ⟨_, rfl, _, _, rfl, rfl, _, rfl, A.NUMBERS_OF, _, _, _, rfl, rfl, htab _, at_of (j := p.toNat) (v := V.int (n : Int)) (by omega) (by rw [List.getElem?_map, shape_tab hshape]; rfl), _, _, rfl, rfl, ?_⟩
      refine ⟨_, rfl, _, rfl, _, _, rfl, rfl, _, rfl, _, rfl, _, rfl, a, _, rfl, hS2, fun nq hnq => ?_⟩
      have ecut : cutV (ns.map V.int) (some ((place : Int) + 1)) (some ((place : Int) + 1 + (n : Int))) = ((ns.drop (place + 1)).take n).map V.int := by
        have := cut_nat ns (place + 1) (place + 1 + n) (by omega)
        rw [show place + 1 + n - (place + 1) = n by omega] at this
        exact this
      rw [ecut]
      have s3 : Same H2 (upd H2 nq (.lst (((ns.drop (place + 1)).take n).map V.int))) := fun b o e => by rw [upd_ne (ne_of_none e hnq)]; exact e
      refine ⟨Nat.zero_le _, fun rq hrq => ?_⟩
      have s4 : Same H2 (upd (upd H2 nq (.lst (((ns.drop (place + 1)).take n).map V.int))) rq (.lst [])) := fun b o e => by rw [upd_ne (ne_of_none (s3 _ _ e) hrq)]; exact s3 _ _ e
      have nqrq : nq ≠ rq := fun e => by rw [← e, upd_same] at hrq; cases hrq
      have hnq2 : (upd (upd H2 nq (.lst (((ns.drop (place + 1)).take n).map V.int))) rq (.lst [])) nq = some (.lst (((ns.drop (place + 1)).take n).map V.int)) := by rw [upd_ne nqrq, upd_same]
      refine ⟨_, rfl, rfl, _, rfl, ?_⟩
      refine ite_tail (fun σ' H3 => ∃ rq' : Addr, σ' = [some (.ref a), some (.ref x), some (.ref g), some (.int (place : Int)), some (.int p), some (.int (past : Int)), some (.ref nq), some (.ref rq'), o5] ∧ Same H2 H3 ∧ H2 nq = none ∧ H3 nq = some (.lst (((ns.drop (place + 1)).take n).map V.int)) ∧ H3 rq' = some (.lst (row.map V.int))) ?tail ?h1 ?h2
      case h2 =>
        intro h15
        have h15 : p ≠ 15 := fun e => by
          have := of_decide_eq_false h15
          exact this (by rw [e])
        rcases hway with ⟨_, e1, e2, e3⟩ | ⟨e, _⟩
        · refine ⟨rq, ?_, s4, hnq, hnq2, by rw [upd_same, e3]; rfl⟩
          rw [e2]; simp
        · exact absurd e h15
      case h1 =>
        intro h15 nx' hnx
        have h15 : p = 15 := V.int.inj (of_decide_eq_true h15)
        rcases hway with ⟨e, _⟩ | ⟨_, mm, e1, e2, e3, e4, e5, e6⟩
        · exact absurd h15 e
        refine ⟨_, rfl, _, rfl, _, _, rfl, rfl, _, rfl, _, rfl, _, _, rfl, rfl, _, rfl, _, rfl, a, _, _, _, rfl, rfl, s4.seq hS2, at_of (j := place + 1 + n) (by omega) (by rw [List.getElem?_map, e1]; rfl), _, _, rfl, rfl, _, rfl, a, _, rfl, s4.seq hS2, fun rq2 hrq2 => ?_⟩
        have ecut2 : cutV (ns.map V.int) (some ((place : Int) + 1 + (n : Int) + 1)) (some ((place : Int) + 1 + (n : Int) + 1 + mm)) = row.map V.int := by
          have := cut_nat ns (place + 1 + n + 1) (place + 1 + n + 1 + mm.toNat) (by omega)
          rw [show place + 1 + n + 1 + mm.toNat - (place + 1 + n + 1) = mm.toNat by omega, ← e4] at this
          rw [← this]
          congr 2
          omega
        rw [ecut2]
        have rl : row.length = mm.toNat := by rw [e4, List.length_take, List.length_drop]; omega
        refine ⟨_, rfl, _, _, rfl, rfl, _, rfl, rq2, _, rfl, .inl (SqL.of upd_same), _, _, rfl, rfl, ?_⟩
        refine hnx _ _ ⟨rq2, ?_, fun b o e => by rw [upd_ne (ne_of_none (s4 _ _ e) hrq2)]; exact s4 _ _ e, hnq, ?_, upd_same⟩
        · show [some (V.ref a), some (V.ref x), some (V.ref g), some (V.int (place : Int)), some (V.int p), some (V.int ((place : Int) + 1 + (n : Int) + 1 + ((row.map V.int).length : Int))), some (V.ref nq), some (V.ref rq2), o5] = _
          have : (place : Int) + 1 + (n : Int) + 1 + ((row.map V.int).length : Int) = (past : Int) := by rw [List.length_map, rl, e6]; omega
          rw [this]
        · rw [upd_ne (ne_of_none hnq2 hrq2)]; exact hnq2
      case tail =>
        rintro σ' H3 ⟨rq', rfl, s5, nnq, hnq3, hrq3⟩
        have BA3 := BA.same s5
        refine ⟨_, rfl, _, rfl, _, rfl, _, rfl, x, nq, rq', rs, F, p, (ns.drop (place + 1)).take n, row, c, rfl, BA3, wf, hnq3, hrq3, ?_, p0, p15, hask1, fun H4 F' q rs' ans BA4 wf4 kp4 fr4 hq hqF hq4 hst hal => ?_⟩
        · rcases hway with ⟨h15, e1, _, _⟩ | ⟨h15, mm, _, _, _, _, e5, _⟩
          · exact .inl ⟨h15, e1⟩
          · exact .inr ⟨h15, e5⟩
        have hg3 := s5 _ _ hG
        have hg4 := kp4 _ _ hg3 gF
        have gq : g ≠ q := hq g _ hg3 gF
        have gF' : g ∉ F' := fun mF => by
          rcases fr4 g mF with z | z
          · exact gF z
          · rw [hg3] at z; cases z
        have ah4 := hnext rs' ans hst hal
        have glen := ah.len
        have big : (34 * 16000 + 100 : Nat) ≤ sizeLine := by decide
        refine ⟨_, rfl, .inl ⟨rfl, _, SqL.of hg4⟩, _, rfl, q, _, rfl, .inl (SqL.of hq4), g, _, _, rfl, rfl, hg4, by rw [List.length_map]; omega, ?_⟩
        refine ⟨_, rfl, .inl ⟨rfl, _, SqL.of upd_same⟩, _, rfl, g, q, _, _, rfl, rfl, upd_same, by rw [upd_ne gq.symm]; exact hq4, ?_, ?_⟩
        · simp only [List.length_append, List.length_map, List.length_cons, List.length_nil]
          omega
        have s6 : ∀ b o, H b = some o → (upd (upd H4 g (.lst (G.map V.int ++ [V.int ((ans.map V.int).length : Int)]))) g (.lst ((G.map V.int ++ [V.int ((ans.map V.int).length : Int)]) ++ ans.map V.int))) b = some o := fun b o e => by
          have bg : b ≠ g := ne_of_none e ng
          rw [upd_ne bg, upd_ne bg]
          refine kp4 b o (s5 _ _ (sm _ _ e)) fun mF => ?_
          rw [fF b mF] at e; cases e
        refine ⟨_, rfl, ns.length - past, by omega, past, rs', F', G ++ ((ans.length : Int) :: ans), cs', _, _, _, _, _, rfl, rfl, ?_, wf4, gF', fun c' hc' => ?_, ?_, s6, ah4⟩
        · rw [upd_upd]
          obtain ⟨lb4, bs4, eF4, B4⟩ := BA4
          refine BodyAt.keepOut ⟨lb4, bs4, eF4, B4⟩ (fun b o e nb => by rw [upd_ne nb]; exact e) gF' hg4
        · rcases fr4 c' hc' with z | z
          · exact fF c' z
          · exact sm.free (s5.free z)
        · rw [upd_same]
          simp
    · have hp : ¬ place < ns.length := fun c => h (decide_eq_true (by rw [List.length_map]; omega))
      have e : ns.drop place = [] := List.drop_of_length_le (by omega)
      obtain ⟨f0, hf0⟩ := ah.parse
      rw [e] at hf0
      have ec : cs = [] := by cases f0 <;> (simp [PyFlat.calls] at hf0; exact hf0)
      have eq := ah.eq
      rw [ec] at eq
      refine ⟨_, rfl, k H2 g ?_⟩
      rw [hG, eq]
      simp [PyFlat.played, PyFlat.told]
end BF
end


section
set_option Elab.async false
set_option linter.all false
set_option maxRecDepth 100000
set_option maxHeartbeats 4000000
namespace BF
open PySem PySem.Spec PyProof.Rows L2
theorem no_ {P : Prop} (h : false = true) : P := by cases h
theorem asked_0 {ns : List Int} (h : Sc12Neutral.asked1 [0 :: ns] = true) : ns = [] := by
  cases ns with
  | cons z l => exact no_ h
  | nil =>
    rfl
theorem asked_1 {ns : List Int} (h : Sc12Neutral.asked1 [1 :: ns] = true) : ns = [] := by
  cases ns with
  | cons z l => exact no_ h
  | nil =>
    rfl
theorem asked_2 {ns : List Int} (h : Sc12Neutral.asked1 [2 :: ns] = true) : ∃ b o d x y, ns = [b, o, d, x, y] ∧ -(2 ^ 63) ≤ y ∧ y < 2 ^ 63 := by
  cases ns with
  | nil => exact no_ h
  | cons z0 ns =>
    cases ns with
    | nil => exact no_ h
    | cons z1 ns =>
      cases ns with
      | nil => exact no_ h
      | cons z2 ns =>
        cases ns with
        | nil => exact no_ h
        | cons z3 ns =>
          cases ns with
          | nil => exact no_ h
          | cons z4 ns =>
            cases ns with
            | cons z l => exact no_ h
            | nil =>
              have h : (Sc12Neutral.whole32 z0 && (Sc12Neutral.whole32 z1 && (Sc12Neutral.whole32 z2 && (Sc12Neutral.whole32 z3 && Sc12Neutral.whole32 z4)))) = true := h
              simp only [Sc12Neutral.whole32, Bool.and_eq_true, decide_eq_true_iff] at h
              exact ⟨z0, z1, z2, z3, z4, rfl, by omega, by omega⟩
theorem asked_3 {ns : List Int} (h : Sc12Neutral.asked1 [3 :: ns] = true) : ∃ b t, ns = [b, t] := by
  cases ns with
  | nil => exact no_ h
  | cons z0 ns =>
    cases ns with
    | nil => exact no_ h
    | cons z1 ns =>
      cases ns with
      | cons z l => exact no_ h
      | nil =>
        exact ⟨z0, z1, rfl⟩
theorem asked_4 {ns : List Int} (h : Sc12Neutral.asked1 [4 :: ns] = true) : ∃ b v y n, ns = [b, v, y, n] := by
  cases ns with
  | nil => exact no_ h
  | cons z0 ns =>
    cases ns with
    | nil => exact no_ h
    | cons z1 ns =>
      cases ns with
      | nil => exact no_ h
      | cons z2 ns =>
        cases ns with
        | nil => exact no_ h
        | cons z3 ns =>
          cases ns with
          | cons z l => exact no_ h
          | nil =>
            exact ⟨z0, z1, z2, z3, rfl⟩
theorem asked_5 {ns : List Int} (h : Sc12Neutral.asked1 [5 :: ns] = true) : ∃ b v, ns = [b, v] := by
  cases ns with
  | nil => exact no_ h
  | cons z0 ns =>
    cases ns with
    | nil => exact no_ h
    | cons z1 ns =>
      cases ns with
      | cons z l => exact no_ h
      | nil =>
        exact ⟨z0, z1, rfl⟩
theorem asked_6 {ns : List Int} (h : Sc12Neutral.asked1 [6 :: ns] = true) : ∃ a b, ns = [a, b] := by
  cases ns with
  | nil => exact no_ h
  | cons z0 ns =>
    cases ns with
    | nil => exact no_ h
    | cons z1 ns =>
      cases ns with
      | cons z l => exact no_ h
      | nil =>
        exact ⟨z0, z1, rfl⟩
theorem asked_7 {ns : List Int} (h : Sc12Neutral.asked1 [7 :: ns] = true) : ∃ b, ns = [b] := by
  cases ns with
  | nil => exact no_ h
  | cons z0 ns =>
    cases ns with
    | cons z l => exact no_ h
    | nil =>
      exact ⟨z0, rfl⟩
theorem asked_8 {ns : List Int} (h : Sc12Neutral.asked1 [8 :: ns] = true) : ∃ b, ns = [b] := by
  cases ns with
  | nil => exact no_ h
  | cons z0 ns =>
    cases ns with
    | cons z l => exact no_ h
    | nil =>
      exact ⟨z0, rfl⟩
theorem asked_9 {ns : List Int} (h : Sc12Neutral.asked1 [9 :: ns] = true) : ∃ b, ns = [b] := by
  cases ns with
  | nil => exact no_ h
  | cons z0 ns =>
    cases ns with
    | cons z l => exact no_ h
    | nil =>
      exact ⟨z0, rfl⟩
theorem asked_10 {ns : List Int} (h : Sc12Neutral.asked1 [10 :: ns] = true) : ∃ b, ns = [b] := by
  cases ns with
  | nil => exact no_ h
  | cons z0 ns =>
    cases ns with
    | cons z l => exact no_ h
    | nil =>
      exact ⟨z0, rfl⟩
theorem asked_11 {ns : List Int} (h : Sc12Neutral.asked1 [11 :: ns] = true) : ∃ b, ns = [b] := by
  cases ns with
  | nil => exact no_ h
  | cons z0 ns =>
    cases ns with
    | cons z l => exact no_ h
    | nil =>
      exact ⟨z0, rfl⟩
theorem asked_12 {ns : List Int} (h : Sc12Neutral.asked1 [12 :: ns] = true) : ∃ b, ns = [b] := by
  cases ns with
  | nil => exact no_ h
  | cons z0 ns =>
    cases ns with
    | cons z l => exact no_ h
    | nil =>
      exact ⟨z0, rfl⟩
theorem asked_13 {ns : List Int} (h : Sc12Neutral.asked1 [13 :: ns] = true) : ∃ b, ns = [b] := by
  cases ns with
  | nil => exact no_ h
  | cons z0 ns =>
    cases ns with
    | cons z l => exact no_ h
    | nil =>
      exact ⟨z0, rfl⟩
theorem asked_14 {ns : List Int} (h : Sc12Neutral.asked1 [14 :: ns] = true) : ∃ b, ns = [b] := by
  cases ns with
  | nil => exact no_ h
  | cons z0 ns =>
    cases ns with
    | cons z l => exact no_ h
    | nil =>
      exact ⟨z0, rfl⟩
theorem asked_15 {ns row : List Int} (h : Sc12Neutral.asked1 [15 :: ns, row] = true) : ∃ n, ns = [n] ∧ 0 ≤ n ∧ Longs row := by
  cases ns with
  | nil => exact no_ h
  | cons z ns =>
    cases ns with
    | cons y l => exact no_ h
    | nil =>
      have h : ((row.all (fun (z : Int) => decide (-(2 ^ 63) ≤ z) && decide (z < 2 ^ 63)) && decide (row.length = 32)) && Sc12Neutral.natural z 32) = true := h
      refine ⟨z, rfl, ?_, ?_⟩
      · rw [Bool.and_eq_true] at h
        have := h.2
        unfold Sc12Neutral.natural at this
        rw [Bool.and_eq_true, decide_eq_true_iff] at this
        exact this.1
      · simp_all [Longs]
variable {P : Program} {w : World} {K : PySem.W.Frag} {mg : Str → Option Value} {base : Heap} {A : Ad}
def spChanged (A : Ad) : Sp := fun vs H Q _ => ∃ (p nq : Addr) (rs : List RB) (F : List Addr) (call : Int) (ns : List Int), vs = [.ref p, .int call, .ref nq] ∧ BodyAt A H p rs F ∧ Wf rs ∧ H nq = some (.lst (ns.map V.int)) ∧ 0 ≤ call ∧ call ≤ 5 ∧ Sc12Neutral.asked1 [call :: ns] = true ∧
  ∀ (H' : Hp) (F' : List Addr) (rs' : List RB) (v : Int), BodyAt A H' p rs' F' → Wf rs' → Keeps F H H' → Fresh H F F' → Sc12Neutral.step (abs rs) [call :: ns] = (abs rs', [v]) → Q (.int v) H'
theorem Goes.step {rs : List RB} {r : List RB × Int} {c : Sc12.Call} {cc : List (List Int)} (g : Goes rs r c) (h : Sc12Neutral.callOf cc = some c) : Sc12Neutral.step (abs rs) cc = (abs r.1, [r.2]) := by
  unfold Sc12Neutral.step
  rw [h]
  dsimp only
  rw [g.eq]
theorem at_ints {ns : List Int} {j : Nat} {z : Int} (h : ns[j]? = some z) : atI (ns.map V.int) ((j : Nat) : Int) = some (.int z) := atI_nat (by rw [List.getElem?_map, h]; rfl)
theorem d_changed (T : Txt K mg A) : Def P w K mg base 4 "changed" ["body", "call", "numbers"] (spChanged A) := by
  refine T.r_changed.def sc_changed (fun vs H Q E h => ?_) (fun f cdv A' outer s H vs Q E hr h => ?_)
  · obtain ⟨p, nq, rs, F, call, ns, rfl, _⟩ := h
    rfl
  · obtain ⟨p, nq, rs, F, call, ns, rfl, BA, wf, hn, c0, c5, hask, k⟩ := h
    have BA2 := BA
    obtain ⟨lb, bs, eF, B⟩ := BA2
    obtain ⟨dx, hp⟩ := B.ins
    refine ⟨_, (pss_cons (ps_if (pt_cmpR op_eq (pv 1) (gl T.c_INIT) (nomark _)) (pss_one (ps_ret (pe_dm0 (pv 0) T.cl_Body (d_Body_init T) hr))) pss_nil) (pss_cons (ps_if (pt_cmpR op_eq (pv 1) (gl T.c_BLOCK) (nomark _)) (pss_one (ps_ret (pe_dm0 (pv 0) T.cl_Body (d_Body_block T) hr))) pss_nil) (pss_cons (ps_if (pt_cmpR op_eq (pv 1) (gl T.c_OP) (nomark _)) (pss_one (ps_ret (pe_dm (pv 0) T.cl_Body (d_Body_op T) hr (pa_cons (pe_ix ix_list (pv 2) pe_int (fun _ _ => rfl)) (pa_cons (pe_ix ix_list (pv 2) pe_int (fun _ _ => rfl)) (pa_cons (pe_ix ix_list (pv 2) pe_int (fun _ _ => rfl)) (pa_cons (pe_ix ix_list (pv 2) pe_int (fun _ _ => rfl)) (pa_cons (pe_ix ix_list (pv 2) pe_int (fun _ _ => rfl)) pa_nil)))))))) pss_nil) (pss_cons (ps_if (pt_cmpR op_eq (pv 1) (gl T.c_JUMP) (nomark _)) (pss_one (ps_ret (pe_dm (pv 0) T.cl_Body (d_Body_jump T) hr (pa_cons (pe_ix ix_list (pv 2) pe_int (fun _ _ => rfl)) (pa_cons (pe_ix ix_list (pv 2) pe_int (fun _ _ => rfl)) pa_nil))))) pss_nil) (pss_cons (ps_if (pt_cmpR op_eq (pv 1) (gl T.c_BRANCH) (nomark _)) (pss_one (ps_ret (pe_dm (pv 0) T.cl_Body (d_Body_branch T) hr (pa_cons (pe_ix ix_list (pv 2) pe_int (fun _ _ => rfl)) (pa_cons (pe_ix ix_list (pv 2) pe_int (fun _ _ => rfl)) (pa_cons (pe_ix ix_list (pv 2) pe_int (fun _ _ => rfl)) (pa_cons (pe_ix ix_list (pv 2) pe_int (fun _ _ => rfl)) pa_nil))))))) pss_nil) (pss_one (ps_ret (pe_dm (pv 0) T.cl_Body (d_Body_ret T) hr (pa_cons (pe_ix ix_list (pv 2) pe_int (fun _ _ => rfl)) (pa_cons (pe_ix ix_list (pv 2) pe_int (fun _ _ => rfl)) pa_nil)))))))))), ?_⟩
    refine ⟨_, rfl, rfl, _, rfl, ite2 (fun h => ?_) (fun h0 => ?_)⟩
    · have e : call = 0 := V.int.inj (of_decide_eq_true h)
      subst e
      obtain rfl := asked_0 hask
      have go := go_init rs
      exact ⟨_, rfl, p, dx, _, rfl, hp, rfl, p, rs, F, [], rfl, rfl, BA, wf.sz, fun H' F' b1 b2 b3 => k H' F' _ _ b1 go.wf b2 b3 (go.step rfl)⟩
    have h0 : call ≠ 0 := fun e => h0 (decide_eq_true (by rw [e]))
    refine ⟨_, rfl, rfl, _, rfl, ite2 (fun h => ?_) (fun h1 => ?_)⟩
    · have e : call = 1 := V.int.inj (of_decide_eq_true h)
      subst e
      obtain rfl := asked_1 hask
      have go := go_block wf
      exact ⟨_, rfl, p, dx, _, rfl, hp, rfl, p, rs, F, [], rfl, rfl, BA, wf.sz, fun H' F' b1 b2 b3 => k H' F' _ _ b1 go.wf b2 b3 (go.step rfl)⟩
    have h1 : call ≠ 1 := fun e => h1 (decide_eq_true (by rw [e]))
    refine ⟨_, rfl, rfl, _, rfl, ite2 (fun h => ?_) (fun h2 => ?_)⟩
    · have e : call = 2 := V.int.inj (of_decide_eq_true h)
      subst e
      obtain ⟨b, o, d, x, y, rfl, hy⟩ := asked_2 hask
      have go := go_op wf b o d x y hy
      refine ⟨_, rfl, p, dx, _, rfl, hp, rfl, _, rfl, nq, _, _, _, rfl, rfl, SqL.of hn, at_ints (j := 0) rfl, _, rfl, nq, _, _, _, rfl, rfl, SqL.of hn, at_ints (j := 1) rfl, _, rfl, nq, _, _, _, rfl, rfl, SqL.of hn, at_ints (j := 2) rfl, _, rfl, nq, _, _, _, rfl, rfl, SqL.of hn, at_ints (j := 3) rfl, _, rfl, nq, _, _, _, rfl, rfl, SqL.of hn, at_ints (j := 4) rfl, ?_⟩
      exact ⟨p, rs, F, [b, o, d, x, y], rfl, rfl, BA, wf.sz, fun H' F' b1 b2 b3 => k H' F' _ _ b1 go.wf b2 b3 (go.step rfl)⟩
    have h2 : call ≠ 2 := fun e => h2 (decide_eq_true (by rw [e]))
    refine ⟨_, rfl, rfl, _, rfl, ite2 (fun h => ?_) (fun h3 => ?_)⟩
    · have e : call = 3 := V.int.inj (of_decide_eq_true h)
      subst e
      obtain ⟨b, t, rfl⟩ := asked_3 hask
      have go := go_jump wf b t
      refine ⟨_, rfl, p, dx, _, rfl, hp, rfl, _, rfl, nq, _, _, _, rfl, rfl, SqL.of hn, at_ints (j := 0) rfl, _, rfl, nq, _, _, _, rfl, rfl, SqL.of hn, at_ints (j := 1) rfl, ?_⟩
      exact ⟨p, rs, F, [b, t], rfl, rfl, BA, wf.sz, fun H' F' b1 b2 b3 => k H' F' _ _ b1 go.wf b2 b3 (go.step rfl)⟩
    have h3 : call ≠ 3 := fun e => h3 (decide_eq_true (by rw [e]))
    refine ⟨_, rfl, rfl, _, rfl, ite2 (fun h => ?_) (fun h4 => ?_)⟩
    · have e : call = 4 := V.int.inj (of_decide_eq_true h)
      subst e
      obtain ⟨b, v, y, n, rfl⟩ := asked_4 hask
      have go := go_branch wf b v y n
      refine ⟨_, rfl, p, dx, _, rfl, hp, rfl, _, rfl, nq, _, _, _, rfl, rfl, SqL.of hn, at_ints (j := 0) rfl, _, rfl, nq, _, _, _, rfl, rfl, SqL.of hn, at_ints (j := 1) rfl, _, rfl, nq, _, _, _, rfl, rfl, SqL.of hn, at_ints (j := 2) rfl, _, rfl, nq, _, _, _, rfl, rfl, SqL.of hn, at_ints (j := 3) rfl, ?_⟩
      exact ⟨p, rs, F, [b, v, y, n], rfl, rfl, BA, wf.sz, fun H' F' b1 b2 b3 => k H' F' _ _ b1 go.wf b2 b3 (go.step rfl)⟩
    have h4 : call ≠ 4 := fun e => h4 (decide_eq_true (by rw [e]))
    have e : call = 5 := by omega
    subst e
    obtain ⟨b, v, rfl⟩ := asked_5 hask
    have go := go_ret wf b v
    refine ⟨_, rfl, p, dx, _, rfl, hp, rfl, _, rfl, nq, _, _, _, rfl, rfl, SqL.of hn, at_ints (j := 0) rfl, _, rfl, nq, _, _, _, rfl, rfl, SqL.of hn, at_ints (j := 1) rfl, ?_⟩
    exact ⟨p, rs, F, [b, v], rfl, rfl, BA, wf.sz, fun H' F' b1 b2 b3 => k H' F' _ _ b1 go.wf b2 b3 (go.step rfl)⟩
end BF
end


section
set_option Elab.async false
set_option linter.all false
set_option maxRecDepth 100000
set_option maxHeartbeats 4000000
namespace BF
open PySem PySem.Spec PyProof.Rows L2
variable {P : Program} {w : World} {K : PySem.W.Frag} {mg : Str → Option Value} {base : Heap} {A : Ad}
def tell (r : Sc12.State × Sc12.Ans) : Sc12.State × List Int := (r.1, r.2.value :: r.2.out)
theorem st_6 (rs : List RB) (a b : Int) : Sc12Neutral.step (abs rs) [[6, a, b]] = (abs rs, [ov rs a b]) := by
  show tell (if Sc12.isBlock (abs rs) a = true ∧ Sc12.isBlock (abs rs) b = true then _ else _) = _
  rw [isBlock_abs, isBlock_abs]
  unfold ov
  split <;> rfl
theorem st_7 (rs : List RB) (b : Int) : Sc12Neutral.step (abs rs) [[7, b]] = (abs rs, [idm rs b]) := by
  show tell (if Sc12.isBlock (abs rs) b = true then _ else _) = _
  rw [isBlock_abs]
  unfold idm
  split <;> rfl
theorem st_8 (rs : List RB) (b : Int) : Sc12Neutral.step (abs rs) [[8, b]] = (abs rs, [frontS rs b]) := by
  show tell (if Sc12.isBlock (abs rs) b = true then _ else _) = _
  rw [isBlock_abs]
  unfold frontS
  split <;> rfl
theorem st_9 (rs : List RB) (b : Int) : Sc12Neutral.step (abs rs) [[9, b]] = (abs rs, [loopS rs b]) := by
  show tell (if Sc12.isBlock (abs rs) b = true then _ else _) = _
  rw [isBlock_abs]
  unfold loopS
  split <;> rfl
theorem st_10 (rs : List RB) (b : Int) : Sc12Neutral.step (abs rs) [[10, b]] = (abs rs, [inS rs b]) := by
  show tell (if Sc12.isBlock (abs rs) b = true then _ else _) = _
  rw [isBlock_abs]
  unfold inS
  split <;> rfl
theorem st_11 (rs : List RB) (b : Int) : Sc12Neutral.step (abs rs) [[11, b]] = (abs rs, [outS rs b]) := by
  show tell (if Sc12.isBlock (abs rs) b = true then _ else _) = _
  rw [isBlock_abs]
  unfold outS
  split <;> rfl
theorem st_12 (rs : List RB) (b : Int) : Sc12Neutral.step (abs rs) [[12, b]] = (abs rs, [meetS rs b]) := by
  show tell (if Sc12.isBlock (abs rs) b = true then _ else _) = _
  rw [isBlock_abs]
  unfold meetS
  split <;> rfl
theorem st_13 (rs : List RB) (v : Int) : Sc12Neutral.step (abs rs) [[13, v]] = (abs rs, [clashS rs v]) := by
  show tell (if Sc12.isVar v = true then _ else _) = _
  rw [isVar_isV]
  unfold clashS
  split <;> rfl
theorem st_14 (rs : List RB) (n : Int) : Sc12Neutral.step (abs rs) [[14, n]] = (abs rs, regS rs n) := by
  have e : Sc12.spec (abs rs) (.registers n) = if 1 ≤ n ∧ n ≤ 32 then (if ((Sc12.taken (Sc12.registers (abs rs) Sc12.VARS) : Nat) : Int) ≤ n then (abs rs, ⟨((Sc12.taken (Sc12.registers (abs rs) Sc12.VARS) : Nat) : Int), (Sc12.registers (abs rs) Sc12.VARS).map fun (r : Nat) => (r : Int)⟩) else Sc12.says (abs rs) (-1)) else Sc12.says (abs rs) Sc12.NO := by
    simp only [Sc12.spec]
  have e2 : Sc12Neutral.step (abs rs) [[14, n]] = tell (Sc12.spec (abs rs) (.registers n)) := by
    unfold Sc12Neutral.step tell
    rfl
  have v : Sc12.VARS = 32 := rfl
  rw [e2, e, v]
  unfold regS
  generalize Sc12.registers (abs rs) 32 = l
  by_cases h : 1 ≤ n ∧ n ≤ 32
  · rw [if_pos h, if_pos h]
    by_cases h2 : ((Sc12.taken l : Nat) : Int) ≤ n
    · rw [if_pos h2, if_pos h2]; rfl
    · rw [if_neg h2, if_neg h2]; rfl
  · rw [if_neg h, if_neg h]; rfl
theorem st_15 (rs : List RB) (n : Int) (l : List Int) : Sc12Neutral.step (abs rs) [[15, n], l] = (abs rs, toldR (Sc12.runs (abs rs) l n.toNat)) := rfl
def spFound (A : Ad) : Sp := fun vs H Q _ => ∃ (p : Addr) (rs : List RB) (F : List Addr) (call n : Int), vs = [.ref p, .int call, .int n] ∧ BodyAt A H p rs F ∧ Wf rs ∧ 7 ≤ call ∧ call ≤ 13 ∧ ∀ (H' : Hp) (v : Int), Same H H' → Sc12Neutral.step (abs rs) [[call, n]] = (abs rs, [v]) → Q (.int v) H'
theorem d_found (T : Txt K mg A) : Def P w K mg base 8 "found" ["body", "call", "number"] (spFound A) := by
  refine T.r_found.def sc_found (fun vs H Q E h => ?_) (fun f cdv A' outer s H vs Q E hr h => ?_)
  · obtain ⟨p, rs, F, call, n, rfl, _⟩ := h
    rfl
  · obtain ⟨p, rs, F, call, n, rfl, BA, wf, c7, c13, k⟩ := h
    refine ⟨_, (pss_cons (ps_if (pt_cmpR op_eq (pv 1) (gl T.c_IDOM) (nomark _)) (pss_one (ps_ret (pe_def (d_idom T) hr (pa_cons (pv 0) (pa_cons (pv 2) pa_nil))))) pss_nil) (pss_cons (ps_if (pt_cmpR op_eq (pv 1) (gl T.c_FRONT) (nomark _)) (pss_one (ps_ret (pe_def (d_front T) hr (pa_cons (pv 0) (pa_cons (pv 2) pa_nil))))) pss_nil) (pss_cons (ps_if (pt_cmpR op_eq (pv 1) (gl T.c_LOOP) (nomark _)) (pss_one (ps_ret (pe_def (d_loop T) hr (pa_cons (pv 0) (pa_cons (pv 2) pa_nil))))) pss_nil) (pss_cons (ps_if (pt_cmpR op_eq (pv 1) (gl T.c_IN_OF) (nomark _)) (pss_one (ps_ret (pe_def (d_in_of T) hr (pa_cons (pv 0) (pa_cons (pv 2) pa_nil))))) pss_nil) (pss_cons (ps_if (pt_cmpR op_eq (pv 1) (gl T.c_OUT) (nomark _)) (pss_one (ps_ret (pe_def (d_out T) hr (pa_cons (pv 0) (pa_cons (pv 2) pa_nil))))) pss_nil) (pss_cons (ps_if (pt_cmpR op_eq (pv 1) (gl T.c_MEET) (nomark _)) (pss_one (ps_ret (pe_def (d_meet T) hr (pa_cons (pv 0) (pa_cons (pv 2) pa_nil))))) pss_nil) (pss_one (ps_ret (pe_def (d_clash T) hr (pa_cons (pv 0) (pa_cons (pv 2) pa_nil))))))))))), ?_⟩
    refine ⟨_, rfl, rfl, _, rfl, ite2 (fun h => ?_) (fun h0 => ?_)⟩
    · have e : call = 7 := V.int.inj (of_decide_eq_true h)
      subst e
      exact ⟨_, rfl, _, rfl, p, rs, F, n, rfl, BA, wf, fun H' sm => k H' _ sm (st_7 rs n)⟩
    have h0 : call ≠ 7 := fun e => h0 (decide_eq_true (by rw [e]))
    refine ⟨_, rfl, rfl, _, rfl, ite2 (fun h => ?_) (fun h1 => ?_)⟩
    · have e : call = 8 := V.int.inj (of_decide_eq_true h)
      subst e
      exact ⟨_, rfl, _, rfl, p, rs, F, n, rfl, BA, wf, fun H' sm => k H' _ sm (st_8 rs n)⟩
    have h1 : call ≠ 8 := fun e => h1 (decide_eq_true (by rw [e]))
    refine ⟨_, rfl, rfl, _, rfl, ite2 (fun h => ?_) (fun h2 => ?_)⟩
    · have e : call = 9 := V.int.inj (of_decide_eq_true h)
      subst e
      exact ⟨_, rfl, _, rfl, p, rs, F, n, rfl, BA, wf, fun H' sm => k H' _ sm (st_9 rs n)⟩
    have h2 : call ≠ 9 := fun e => h2 (decide_eq_true (by rw [e]))
    refine ⟨_, rfl, rfl, _, rfl, ite2 (fun h => ?_) (fun h3 => ?_)⟩
    · have e : call = 10 := V.int.inj (of_decide_eq_true h)
      subst e
      exact ⟨_, rfl, _, rfl, p, rs, F, n, rfl, BA, wf, fun H' sm => k H' _ sm (st_10 rs n)⟩
    have h3 : call ≠ 10 := fun e => h3 (decide_eq_true (by rw [e]))
    refine ⟨_, rfl, rfl, _, rfl, ite2 (fun h => ?_) (fun h4 => ?_)⟩
    · have e : call = 11 := V.int.inj (of_decide_eq_true h)
      subst e
      exact ⟨_, rfl, _, rfl, p, rs, F, n, rfl, BA, wf, fun H' sm => k H' _ sm (st_11 rs n)⟩
    have h4 : call ≠ 11 := fun e => h4 (decide_eq_true (by rw [e]))
    refine ⟨_, rfl, rfl, _, rfl, ite2 (fun h => ?_) (fun h5 => ?_)⟩
    · have e : call = 12 := V.int.inj (of_decide_eq_true h)
      subst e
      exact ⟨_, rfl, _, rfl, p, rs, F, n, rfl, BA, wf, fun H' sm => k H' _ sm (st_12 rs n)⟩
    have h5 : call ≠ 12 := fun e => h5 (decide_eq_true (by rw [e]))
    have e : call = 13 := by omega
    subst e
    exact ⟨_, rfl, _, rfl, p, rs, F, n, rfl, BA, wf, fun H' sm => k H' _ sm (st_13 rs n)⟩
theorem BodyAt.out {H : Hp} {p q : Addr} {rs : List RB} {F : List Addr} (B : BodyAt A H p rs F) (h : H q = none) : q ∉ F := fun m => by
  obtain ⟨o, e, _⟩ := B.tracked q m
  rw [h] at e; cases e
theorem regS_len (rs : List RB) (n : Int) : (regS rs n).length ≤ 33 := by
  unfold regS
  split
  · split
    · rw [List.length_cons, List.length_map]
      have := registersBy_len (abs rs) (Sc12.table (abs rs)) 32
      unfold Sc12.registers
      omega
    · decide
  · decide
theorem toldR_len (r : Sc12.Result) : (toldR r).length ≤ 33 := by
  obtain ⟨a, b⟩ := r
  cases b <;> (show _ ≤ 33; simp [toldR])
theorem d_answer (T : Txt K mg A) : Def P w K mg base 9 "answer" ["body", "call", "numbers", "row"] (spAnswer A) := by
  refine T.r_answer.def sc_answer (fun vs H Q E h => ?_) (fun f cdv A' outer s H vs Q E hr h => ?_)
  · obtain ⟨p, nq, rq, rs, F, call, ns, row, c, rfl, _⟩ := h
    rfl
  · obtain ⟨p, nq, rq, rs, F, call, ns, row, c, rfl, BA, wf, hn, hrow, hway, c0, c15, hask, k⟩ := h
    refine ⟨_, (pss_cons (ps_if (pt_cmpR op_le (pv 1) (gl T.c_RET) (nomark _)) (pss_one (ps_ret (pe_lst (pa_cons (pe_def (d_changed T) hr (pa_cons (pv 0) (pa_cons (pv 1) (pa_cons (pv 2) pa_nil)))) pa_nil)))) pss_nil) (pss_cons (ps_if (pt_cmpR op_eq (pv 1) (gl T.c_OVER) (nomark _)) (pss_one (ps_ret (pe_lst (pa_cons (pe_def (d_over T) hr (pa_cons (pv 0) (pa_cons (pe_ix ix_list (pv 2) pe_int (fun _ _ => rfl)) (pa_cons (pe_ix ix_list (pv 2) pe_int (fun _ _ => rfl)) pa_nil)))) pa_nil)))) pss_nil) (pss_cons (ps_if (pt_cmpR op_le (pv 1) (gl T.c_CLASH) (nomark _)) (pss_one (ps_ret (pe_lst (pa_cons (pe_def (d_found T) hr (pa_cons (pv 0) (pa_cons (pv 1) (pa_cons (pe_ix ix_list (pv 2) pe_int (fun _ _ => rfl)) pa_nil)))) pa_nil)))) pss_nil) (pss_cons (ps_if (pt_cmpR op_eq (pv 1) (gl T.c_REGISTERS) (nomark _)) (pss_one (ps_ret (pe_def (d_registers T) hr (pa_cons (pv 0) (pa_cons (pe_ix ix_list (pv 2) pe_int (fun _ _ => rfl)) pa_nil))))) pss_nil) (pss_one (ps_ret (pe_def (d_run T) hr (pa_cons (pv 0) (pa_cons (pe_ix ix_list (pv 2) pe_int (fun _ _ => rfl)) (pa_cons (pv 3) pa_nil)))))))))), ?_⟩
    have one : ∀ (H' : Hp) (v : Int), Same H H' → Sc12Neutral.step (abs rs) c = (abs rs, [v]) → ∀ q, H' q = none → Q (.ref q) (upd H' q (.lst [V.int v])) := fun H' v sm hst q hq => by
      have s2 : Same H (upd H' q (.lst [V.int v])) := fun b o e => by rw [upd_ne (ne_of_none (sm _ _ e) hq)]; exact sm _ _ e
      exact k _ F q rs [v] (BA.same s2) wf (Same.keeps s2) Fresh.refl (fun b o e _ => ne_of_none (sm _ _ e) hq) ((BA.same sm).out hq) upd_same hst (by show 1 ≤ 33; decide)
    have many : ∀ (H' : Hp) (q : Addr) (ans : List Int), Same H H' → H q = none → H' q = some (.lst (ans.map V.int)) → Sc12Neutral.step (abs rs) c = (abs rs, ans) → ans.length ≤ 33 → Q (.ref q) H' := fun H' q ans sm hq hq' hst hl =>
      k H' F q rs ans (BA.same sm) wf (Same.keeps sm) Fresh.refl (fun b o e _ => ne_of_none e hq) (BA.out hq) hq' hst hl
    refine ⟨_, rfl, _, _, rfl, rfl, _, rfl, ite2 (fun h => ?_) (fun h => ?_)⟩
    · have c5 : call ≤ 5 := of_decide_eq_true h
      have ec : c = [call :: ns] := by
        rcases hway with z | z
        · exact z.2
        · omega
      subst ec
      refine ⟨_, rfl, _, rfl, _, rfl, p, nq, rs, F, call, ns, rfl, BA, wf, hn, c0, c5, hask, fun H' F' rs' v b1 b2 b3 b4 b5 => ⟨(by show 1 ≤ sizeLine; decide), fun q hq => ?_⟩⟩
      have s2 : Same H' (upd H' q (.lst [V.int v])) := fun b o e => by rw [upd_ne (ne_of_none e hq)]; exact e
      refine k _ F' q rs' [v] (b1.same s2) b2 (fun b o e nb => s2 _ _ (b3 b o e nb)) b4 (fun b o e nb => ne_of_none (b3 b o e nb) hq) (b1.out hq) upd_same b5 (by show 1 ≤ 33; decide)
    have c5 : ¬ call ≤ 5 := fun z => h (decide_eq_true z)
    refine ⟨_, rfl, rfl, _, rfl, ite2 (fun h => ?_) (fun h6 => ?_)⟩
    · have e : call = 6 := V.int.inj (of_decide_eq_true h)
      subst e
      have ec : c = [6 :: ns] := by
        rcases hway with z | z
        · exact z.2
        · omega
      subst ec
      obtain ⟨a, b, rfl⟩ := asked_6 hask
      refine ⟨_, rfl, _, rfl, nq, _, _, _, rfl, rfl, SqL.of hn, at_ints (j := 0) rfl, _, rfl, nq, _, _, _, rfl, rfl, SqL.of hn, at_ints (j := 1) rfl, ?_⟩
      exact ⟨p, rs, F, a, b, rfl, BA, wf, fun H' sm => ⟨(by show 1 ≤ sizeLine; decide), one H' _ sm (st_6 rs a b)⟩⟩
    have c6 : call ≠ 6 := fun e => h6 (decide_eq_true (by rw [e]))
    refine ⟨_, rfl, _, _, rfl, rfl, _, rfl, ite2 (fun h => ?_) (fun h13 => ?_)⟩
    · have c13 : call ≤ 13 := of_decide_eq_true h
      have ec : c = [call :: ns] := by
        rcases hway with z | z
        · exact z.2
        · omega
      subst ec
      obtain ⟨b, rfl⟩ : ∃ b, ns = [b] := by
        have : call = 7 ∨ call = 8 ∨ call = 9 ∨ call = 10 ∨ call = 11 ∨ call = 12 ∨ call = 13 := by omega
        rcases this with e | e | e | e | e | e | e <;> subst e
        · exact asked_7 hask
        · exact asked_8 hask
        · exact asked_9 hask
        · exact asked_10 hask
        · exact asked_11 hask
        · exact asked_12 hask
        · exact asked_13 hask
      refine ⟨_, rfl, _, rfl, _, rfl, nq, _, _, _, rfl, rfl, SqL.of hn, at_ints (j := 0) rfl, ?_⟩
      exact ⟨p, rs, F, call, b, rfl, BA, wf, by omega, c13, fun H' v sm hst => ⟨(by show 1 ≤ sizeLine; decide), one H' v sm hst⟩⟩
    have c13 : ¬ call ≤ 13 := fun z => h13 (decide_eq_true z)
    refine ⟨_, rfl, rfl, _, rfl, ite2 (fun h => ?_) (fun h14 => ?_)⟩
    · have e : call = 14 := V.int.inj (of_decide_eq_true h)
      subst e
      have ec : c = [14 :: ns] := by
        rcases hway with z | z
        · exact z.2
        · omega
      subst ec
      obtain ⟨b, rfl⟩ := asked_14 hask
      refine ⟨_, rfl, _, rfl, nq, _, _, _, rfl, rfl, SqL.of hn, at_ints (j := 0) rfl, ?_⟩
      exact ⟨p, rs, F, b, rfl, BA, wf, fun H' q sm hq hq' => many H' q _ sm hq hq' (st_14 rs b) (regS_len rs b)⟩
    have e : call = 15 := by
      have : call ≠ 14 := fun e => h14 (decide_eq_true (by rw [e]))
      omega
    subst e
    have ec : c = [15 :: ns, row] := by
      rcases hway with z | z
      · exact absurd rfl z.1
      · exact z.2
    subst ec
    obtain ⟨b, rfl, hb, hl⟩ := asked_15 hask
    refine ⟨_, rfl, _, rfl, nq, _, _, _, rfl, rfl, SqL.of hn, at_ints (j := 0) rfl, _, rfl, ?_⟩
    exact ⟨p, rq, rs, F, b, row, rfl, BA, wf, SqL.of hrow, hl, hb, fun H' q sm hq hq' => many H' q _ sm hq hq' (st_15 rs b row) (toldR_len _)⟩
end BF
end


section
set_option Elab.async false
set_option linter.all false
set_option maxRecDepth 100000
set_option maxHeartbeats 4000000
namespace BF
open PySem PySem.Spec PyProof.Rows L2
theorem txt_mk {K : PySem.W.Frag} {h : Heap} {mg : Str → Option Value} (X : K.In h) (G : h.Ns mainGlobals mg) {C_Block C_Body t_NUMBERS_OF : Addr} {k_REFUSED k_MOST_BLOCKS k_MOST_STEPS k_VARIABLES k_ADD k_SUBTRACT k_LESS k_COPY k_NUMBER k_NO_END k_JUMP_END k_BRANCH_END k_RET_END k_NO_BLOCK k_TOO_FEW k_USED_UP k_NO_WAY_ON k_ALL_LONGS k_LONGS_FROM_0 k_INIT k_BLOCK k_OP k_JUMP k_BRANCH k_RET k_OVER k_IDOM k_FRONT k_LOOP k_IN_OF k_OUT k_MEET k_CLASH k_REGISTERS k_RUN : Tok} {u_NUMBERS_OF_0 u_NUMBERS_OF_1 u_NUMBERS_OF_2 u_NUMBERS_OF_3 u_NUMBERS_OF_4 u_NUMBERS_OF_5 u_NUMBERS_OF_6 u_NUMBERS_OF_7 u_NUMBERS_OF_8 u_NUMBERS_OF_9 u_NUMBERS_OF_10 u_NUMBERS_OF_11 u_NUMBERS_OF_12 u_NUMBERS_OF_13 u_NUMBERS_OF_14 u_NUMBERS_OF_15 : Tok} {e_NUMBERS_OF : Nat} {f_is_variable : Addr} {od_is_variable an_is_variable : Option Addr} {sl_is_variable : Array (Option Value)} {oc_is_variable kV_is_variable dc_is_variable pm_is_variable cd_is_variable ct_is_variable : Value} {f_is_goal : Addr} {od_is_goal an_is_goal : Option Addr} {sl_is_goal : Array (Option Value)} {oc_is_goal kV_is_goal dc_is_goal pm_is_goal cd_is_goal ct_is_goal : Value} {f_reads_x : Addr} {od_reads_x an_reads_x : Option Addr} {sl_reads_x : Array (Option Value)} {oc_reads_x kV_reads_x dc_reads_x pm_reads_x cd_reads_x ct_reads_x : Value} {f_reads_y : Addr} {od_reads_y an_reads_y : Option Addr} {sl_reads_y : Array (Option Value)} {oc_reads_y kV_reads_y dc_reads_y pm_reads_y cd_reads_y ct_reads_y : Value} {f_is_step : Addr} {od_is_step an_is_step : Option Addr} {sl_is_step : Array (Option Value)} {oc_is_step kV_is_step dc_is_step pm_is_step cd_is_step ct_is_step : Value} {f_Block_new : Addr} {od_Block_new an_Block_new : Option Addr} {sl_Block_new : Array (Option Value)} {oc_Block_new kV_Block_new dc_Block_new pm_Block_new cd_Block_new ct_Block_new : Value} {f_Body_new : Addr} {od_Body_new an_Body_new : Option Addr} {sl_Body_new : Array (Option Value)} {oc_Body_new kV_Body_new dc_Body_new pm_Body_new cd_Body_new ct_Body_new : Value} {f_Body_init : Addr} {od_Body_init an_Body_init : Option Addr} {sl_Body_init : Array (Option Value)} {oc_Body_init kV_Body_init dc_Body_init pm_Body_init cd_Body_init ct_Body_init : Value} {f_Body_block : Addr} {od_Body_block an_Body_block : Option Addr} {sl_Body_block : Array (Option Value)} {oc_Body_block kV_Body_block dc_Body_block pm_Body_block cd_Body_block ct_Body_block : Value} {f_Body_has_block : Addr} {od_Body_has_block an_Body_has_block : Option Addr} {sl_Body_has_block : Array (Option Value)} {oc_Body_has_block kV_Body_has_block dc_Body_has_block pm_Body_has_block cd_Body_has_block ct_Body_has_block : Value} {f_Body_is_unended : Addr} {od_Body_is_unended an_Body_is_unended : Option Addr} {sl_Body_is_unended : Array (Option Value)} {oc_Body_is_unended kV_Body_is_unended dc_Body_is_unended pm_Body_is_unended cd_Body_is_unended ct_Body_is_unended : Value} {f_Body_op : Addr} {od_Body_op an_Body_op : Option Addr} {sl_Body_op : Array (Option Value)} {oc_Body_op kV_Body_op dc_Body_op pm_Body_op cd_Body_op ct_Body_op : Value} {f_Body_jump : Addr} {od_Body_jump an_Body_jump : Option Addr} {sl_Body_jump : Array (Option Value)} {oc_Body_jump kV_Body_jump dc_Body_jump pm_Body_jump cd_Body_jump ct_Body_jump : Value} {f_Body_branch : Addr} {od_Body_branch an_Body_branch : Option Addr} {sl_Body_branch : Array (Option Value)} {oc_Body_branch kV_Body_branch dc_Body_branch pm_Body_branch cd_Body_branch ct_Body_branch : Value} {f_Body_ret : Addr} {od_Body_ret an_Body_ret : Option Addr} {sl_Body_ret : Array (Option Value)} {oc_Body_ret kV_Body_ret dc_Body_ret pm_Body_ret cd_Body_ret ct_Body_ret : Value} {f_holds : Addr} {od_holds an_holds : Option Addr} {sl_holds : Array (Option Value)} {oc_holds kV_holds dc_holds pm_holds cd_holds ct_holds : Value} {f_behind : Addr} {od_behind an_behind : Option Addr} {sl_behind : Array (Option Value)} {oc_behind kV_behind dc_behind pm_behind cd_behind ct_behind : Value} {f_behind_each : Addr} {od_behind_each an_behind_each : Option Addr} {sl_behind_each : Array (Option Value)} {oc_behind_each kV_behind_each dc_behind_each pm_behind_each cd_behind_each ct_behind_each : Value} {f_reached_without : Addr} {od_reached_without an_reached_without : Option Addr} {sl_reached_without : Array (Option Value)} {oc_reached_without kV_reached_without dc_reached_without pm_reached_without cd_reached_without ct_reached_without : Value} {f_under : Addr} {od_under an_under : Option Addr} {sl_under : Array (Option Value)} {oc_under kV_under dc_under pm_under cd_under ct_under : Value} {f_under_each : Addr} {od_under_each an_under_each : Option Addr} {sl_under_each : Array (Option Value)} {oc_under_each kV_under_each dc_under_each pm_under_each cd_under_each ct_under_each : Value} {f_over : Addr} {od_over an_over : Option Addr} {sl_over : Array (Option Value)} {oc_over kV_over dc_over pm_over cd_over ct_over : Value} {f_idom : Addr} {od_idom an_idom : Option Addr} {sl_idom : Array (Option Value)} {oc_idom kV_idom dc_idom pm_idom cd_idom ct_idom : Value} {f_used_by_step : Addr} {od_used_by_step an_used_by_step : Option Addr} {sl_used_by_step : Array (Option Value)} {oc_used_by_step kV_used_by_step dc_used_by_step pm_used_by_step cd_used_by_step ct_used_by_step : Value} {f_used_by_end : Addr} {od_used_by_end an_used_by_end : Option Addr} {sl_used_by_end : Array (Option Value)} {oc_used_by_end kV_used_by_end dc_used_by_end pm_used_by_end cd_used_by_end ct_used_by_end : Value} {f_given_by : Addr} {od_given_by an_given_by : Option Addr} {sl_given_by : Array (Option Value)} {oc_given_by kV_given_by dc_given_by pm_given_by cd_given_by ct_given_by : Value} {f_ahead_of_step : Addr} {od_ahead_of_step an_ahead_of_step : Option Addr} {sl_ahead_of_step : Array (Option Value)} {oc_ahead_of_step kV_ahead_of_step dc_ahead_of_step pm_ahead_of_step cd_ahead_of_step ct_ahead_of_step : Value} {f_used_first : Addr} {od_used_first an_used_first : Option Addr} {sl_used_first : Array (Option Value)} {oc_used_first kV_used_first dc_used_first pm_used_first cd_used_first ct_used_first : Value} {f_in_any : Addr} {od_in_any an_in_any : Option Addr} {sl_in_any : Array (Option Value)} {oc_in_any kV_in_any dc_in_any pm_in_any cd_in_any ct_in_any : Value} {f_in_each : Addr} {od_in_each an_in_each : Option Addr} {sl_in_each : Array (Option Value)} {oc_in_each kV_in_each dc_in_each pm_in_each cd_in_each ct_in_each : Value} {f_in_of : Addr} {od_in_of an_in_of : Option Addr} {sl_in_of : Array (Option Value)} {oc_in_of kV_in_of dc_in_of pm_in_of cd_in_of ct_in_of : Value} {f_out : Addr} {od_out an_out : Option Addr} {sl_out : Array (Option Value)} {oc_out kV_out dc_out pm_out cd_out ct_out : Value} {f_mark_steps : Addr} {od_mark_steps an_mark_steps : Option Addr} {sl_mark_steps : Array (Option Value)} {oc_mark_steps kV_mark_steps dc_mark_steps pm_mark_steps cd_mark_steps ct_mark_steps : Value} {f_both_ways : Addr} {od_both_ways an_both_ways : Option Addr} {sl_both_ways : Array (Option Value)} {oc_both_ways kV_both_ways dc_both_ways pm_both_ways cd_both_ways ct_both_ways : Value} {f_clash_each : Addr} {od_clash_each an_clash_each : Option Addr} {sl_clash_each : Array (Option Value)} {oc_clash_each kV_clash_each dc_clash_each pm_clash_each cd_clash_each ct_clash_each : Value} {f_clash : Addr} {od_clash an_clash : Option Addr} {sl_clash : Array (Option Value)} {oc_clash kV_clash dc_clash pm_clash cd_clash ct_clash : Value} {f_least_free : Addr} {od_least_free an_least_free : Option Addr} {sl_least_free : Array (Option Value)} {oc_least_free kV_least_free dc_least_free pm_least_free cd_least_free ct_least_free : Value} {f_registers : Addr} {od_registers an_registers : Option Addr} {sl_registers : Array (Option Value)} {oc_registers kV_registers dc_registers pm_registers cd_registers ct_registers : Value} {f_front_of : Addr} {od_front_of an_front_of : Option Addr} {sl_front_of : Array (Option Value)} {oc_front_of kV_front_of dc_front_of pm_front_of cd_front_of ct_front_of : Value} {f_front : Addr} {od_front an_front : Option Addr} {sl_front : Array (Option Value)} {oc_front kV_front dc_front pm_front cd_front ct_front : Value} {f_coming_to : Addr} {od_coming_to an_coming_to : Option Addr} {sl_coming_to : Array (Option Value)} {oc_coming_to kV_coming_to dc_coming_to pm_coming_to cd_coming_to ct_coming_to : Value} {f_loop : Addr} {od_loop an_loop : Option Addr} {sl_loop : Array (Option Value)} {oc_loop kV_loop dc_loop pm_loop cd_loop ct_loop : Value} {f_front_each : Addr} {od_front_each an_front_each : Option Addr} {sl_front_each : Array (Option Value)} {oc_front_each kV_front_each dc_front_each pm_front_each cd_front_each ct_front_each : Value} {f_made_each : Addr} {od_made_each an_made_each : Option Addr} {sl_made_each : Array (Option Value)} {oc_made_each kV_made_each dc_made_each pm_made_each cd_made_each ct_made_each : Value} {f_meet_each : Addr} {od_meet_each an_meet_each : Option Addr} {sl_meet_each : Array (Option Value)} {oc_meet_each kV_meet_each dc_meet_each pm_meet_each cd_meet_each ct_meet_each : Value} {f_meet : Addr} {od_meet an_meet : Option Addr} {sl_meet : Array (Option Value)} {oc_meet kV_meet dc_meet pm_meet cd_meet ct_meet : Value} {f_as_long : Addr} {od_as_long an_as_long : Option Addr} {sl_as_long : Array (Option Value)} {oc_as_long kV_as_long dc_as_long pm_as_long cd_as_long ct_as_long : Value} {f_step_value : Addr} {od_step_value an_step_value : Option Addr} {sl_step_value : Array (Option Value)} {oc_step_value kV_step_value dc_step_value pm_step_value cd_step_value ct_step_value : Value} {f_take_steps : Addr} {od_take_steps an_take_steps : Option Addr} {sl_take_steps : Array (Option Value)} {oc_take_steps kV_take_steps dc_take_steps pm_take_steps cd_take_steps ct_take_steps : Value} {f_goal_of : Addr} {od_goal_of an_goal_of : Option Addr} {sl_goal_of : Array (Option Value)} {oc_goal_of kV_goal_of dc_goal_of pm_goal_of cd_goal_of ct_goal_of : Value} {f_run : Addr} {od_run an_run : Option Addr} {sl_run : Array (Option Value)} {oc_run kV_run dc_run pm_run cd_run ct_run : Value} {f_changed : Addr} {od_changed an_changed : Option Addr} {sl_changed : Array (Option Value)} {oc_changed kV_changed dc_changed pm_changed cd_changed ct_changed : Value} {f_found : Addr} {od_found an_found : Option Addr} {sl_found : Array (Option Value)} {oc_found kV_found dc_found pm_found cd_found ct_found : Value} {f_answer : Addr} {od_answer an_answer : Option Addr} {sl_answer : Array (Option Value)} {oc_answer kV_answer dc_answer pm_answer cd_answer ct_answer : Value} {f_answers : Addr} {od_answers an_answers : Option Addr} {sl_answers : Array (Option Value)} {oc_answers kV_answers dc_answers pm_answers cd_answers ct_answers : Value}
    (c_REFUSED : PySem.W.nsIn K mainGlobals "REFUSED" = some (some (.int (-2) k_REFUSED)))
    (c_MOST_BLOCKS : PySem.W.nsIn K mainGlobals "MOST_BLOCKS" = some (some (.int (64) k_MOST_BLOCKS)))
    (c_MOST_STEPS : PySem.W.nsIn K mainGlobals "MOST_STEPS" = some (some (.int (16) k_MOST_STEPS)))
    (c_VARIABLES : PySem.W.nsIn K mainGlobals "VARIABLES" = some (some (.int (32) k_VARIABLES)))
    (c_ADD : PySem.W.nsIn K mainGlobals "ADD" = some (some (.int (0) k_ADD)))
    (c_SUBTRACT : PySem.W.nsIn K mainGlobals "SUBTRACT" = some (some (.int (1) k_SUBTRACT)))
    (c_LESS : PySem.W.nsIn K mainGlobals "LESS" = some (some (.int (3) k_LESS)))
    (c_COPY : PySem.W.nsIn K mainGlobals "COPY" = some (some (.int (4) k_COPY)))
    (c_NUMBER : PySem.W.nsIn K mainGlobals "NUMBER" = some (some (.int (5) k_NUMBER)))
    (c_NO_END : PySem.W.nsIn K mainGlobals "NO_END" = some (some (.int (0) k_NO_END)))
    (c_JUMP_END : PySem.W.nsIn K mainGlobals "JUMP_END" = some (some (.int (1) k_JUMP_END)))
    (c_BRANCH_END : PySem.W.nsIn K mainGlobals "BRANCH_END" = some (some (.int (2) k_BRANCH_END)))
    (c_RET_END : PySem.W.nsIn K mainGlobals "RET_END" = some (some (.int (3) k_RET_END)))
    (c_NO_BLOCK : PySem.W.nsIn K mainGlobals "NO_BLOCK" = some (some (.int (-1) k_NO_BLOCK)))
    (c_TOO_FEW : PySem.W.nsIn K mainGlobals "TOO_FEW" = some (some (.int (-1) k_TOO_FEW)))
    (c_USED_UP : PySem.W.nsIn K mainGlobals "USED_UP" = some (some (.int (-1) k_USED_UP)))
    (c_NO_WAY_ON : PySem.W.nsIn K mainGlobals "NO_WAY_ON" = some (some (.int (-3) k_NO_WAY_ON)))
    (c_ALL_LONGS : PySem.W.nsIn K mainGlobals "ALL_LONGS" = some (some (.int (18446744073709551616) k_ALL_LONGS)))
    (c_LONGS_FROM_0 : PySem.W.nsIn K mainGlobals "LONGS_FROM_0" = some (some (.int (9223372036854775808) k_LONGS_FROM_0)))
    (c_INIT : PySem.W.nsIn K mainGlobals "INIT" = some (some (.int (0) k_INIT)))
    (c_BLOCK : PySem.W.nsIn K mainGlobals "BLOCK" = some (some (.int (1) k_BLOCK)))
    (c_OP : PySem.W.nsIn K mainGlobals "OP" = some (some (.int (2) k_OP)))
    (c_JUMP : PySem.W.nsIn K mainGlobals "JUMP" = some (some (.int (3) k_JUMP)))
    (c_BRANCH : PySem.W.nsIn K mainGlobals "BRANCH" = some (some (.int (4) k_BRANCH)))
    (c_RET : PySem.W.nsIn K mainGlobals "RET" = some (some (.int (5) k_RET)))
    (c_OVER : PySem.W.nsIn K mainGlobals "OVER" = some (some (.int (6) k_OVER)))
    (c_IDOM : PySem.W.nsIn K mainGlobals "IDOM" = some (some (.int (7) k_IDOM)))
    (c_FRONT : PySem.W.nsIn K mainGlobals "FRONT" = some (some (.int (8) k_FRONT)))
    (c_LOOP : PySem.W.nsIn K mainGlobals "LOOP" = some (some (.int (9) k_LOOP)))
    (c_IN_OF : PySem.W.nsIn K mainGlobals "IN_OF" = some (some (.int (10) k_IN_OF)))
    (c_OUT : PySem.W.nsIn K mainGlobals "OUT" = some (some (.int (11) k_OUT)))
    (c_MEET : PySem.W.nsIn K mainGlobals "MEET" = some (some (.int (12) k_MEET)))
    (c_CLASH : PySem.W.nsIn K mainGlobals "CLASH" = some (some (.int (13) k_CLASH)))
    (c_REGISTERS : PySem.W.nsIn K mainGlobals "REGISTERS" = some (some (.int (14) k_REGISTERS)))
    (c_RUN : PySem.W.nsIn K mainGlobals "RUN" = some (some (.int (15) k_RUN)))
    (b_all : PySem.W.nsIn K mainGlobals "all" = some none)
    (b_enumerate : PySem.W.nsIn K mainGlobals "enumerate" = some none)
    (b_len : PySem.W.nsIn K mainGlobals "len" = some none)
    (b_list : PySem.W.nsIn K mainGlobals "list" = some none)
    (b_max : PySem.W.nsIn K mainGlobals "max" = some none)
    (b_range : PySem.W.nsIn K mainGlobals "range" = some none)
    (b_reversed : PySem.W.nsIn K mainGlobals "reversed" = some none)
    (t0_NUMBERS_OF : PySem.W.nsIn K mainGlobals "NUMBERS_OF" = some (some (.ref t_NUMBERS_OF)))
    (x_NUMBERS_OF : K.lookup t_NUMBERS_OF = some ⟨.type "tuple", none, .seq #[.int (0) u_NUMBERS_OF_0, .int (0) u_NUMBERS_OF_1, .int (5) u_NUMBERS_OF_2, .int (2) u_NUMBERS_OF_3, .int (4) u_NUMBERS_OF_4, .int (2) u_NUMBERS_OF_5, .int (2) u_NUMBERS_OF_6, .int (1) u_NUMBERS_OF_7, .int (1) u_NUMBERS_OF_8, .int (1) u_NUMBERS_OF_9, .int (1) u_NUMBERS_OF_10, .int (1) u_NUMBERS_OF_11, .int (1) u_NUMBERS_OF_12, .int (1) u_NUMBERS_OF_13, .int (1) u_NUMBERS_OF_14, .int (1) u_NUMBERS_OF_15] e_NUMBERS_OF, #[]⟩)
    (q_Block : PySem.W.nsIn K mainGlobals "Block" = some (some (.ref C_Block)))
    (pg_Block : PySem.W.plainGet K C_Block Str.empty = true)
    (hd_Block : PySem.W.hasDictIn K C_Block = true)
    (po_Block : PySem.W.plainOver K C_Block = true)
    (sa_Block : PySem.W.findIn K (.ref C_Block) "__setattr__" = some (some (.builtin "object.__setattr__")))
    (mk_Block : PySem.W.makesIn K C_Block = true)
    (kc_Block : PySem.W.keepIn K (.ref C_Block) = true)
    (na_Block_steps : PySem.W.findIn K (.ref C_Block) "steps" = some none)
    (na_Block_end : PySem.W.findIn K (.ref C_Block) "end" = some none)
    (na_Block_variable : PySem.W.findIn K (.ref C_Block) "variable" = some none)
    (na_Block_goals : PySem.W.findIn K (.ref C_Block) "goals" = some none)
    (q_Body : PySem.W.nsIn K mainGlobals "Body" = some (some (.ref C_Body)))
    (pg_Body : PySem.W.plainGet K C_Body Str.empty = true)
    (hd_Body : PySem.W.hasDictIn K C_Body = true)
    (po_Body : PySem.W.plainOver K C_Body = true)
    (sa_Body : PySem.W.findIn K (.ref C_Body) "__setattr__" = some (some (.builtin "object.__setattr__")))
    (mk_Body : PySem.W.makesIn K C_Body = true)
    (kc_Body : PySem.W.keepIn K (.ref C_Body) = true)
    (na_Body_blocks : PySem.W.findIn K (.ref C_Body) "blocks" = some none)
    (a_is_variable : PySem.W.nsIn K mainGlobals "is_variable" = some (some (.ref f_is_variable)))
    (l_is_variable : K.lookup f_is_variable = some ⟨oc_is_variable, od_is_variable, .func (PySem.W.fnOf "is_variable" "is_variable" (defArgs s_is_variable) (defBody s_is_variable) (defScope s_is_variable) .none kV_is_variable dc_is_variable pm_is_variable an_is_variable cd_is_variable ct_is_variable), sl_is_variable⟩)
    (d_is_variable : PySem.W.codeIn K cd_is_variable "is_variable" = true)
    (k_is_variable : PySem.W.keepIn K (.ref f_is_variable) = true)
    (a_is_goal : PySem.W.nsIn K mainGlobals "is_goal" = some (some (.ref f_is_goal)))
    (l_is_goal : K.lookup f_is_goal = some ⟨oc_is_goal, od_is_goal, .func (PySem.W.fnOf "is_goal" "is_goal" (defArgs s_is_goal) (defBody s_is_goal) (defScope s_is_goal) .none kV_is_goal dc_is_goal pm_is_goal an_is_goal cd_is_goal ct_is_goal), sl_is_goal⟩)
    (d_is_goal : PySem.W.codeIn K cd_is_goal "is_goal" = true)
    (k_is_goal : PySem.W.keepIn K (.ref f_is_goal) = true)
    (a_reads_x : PySem.W.nsIn K mainGlobals "reads_x" = some (some (.ref f_reads_x)))
    (l_reads_x : K.lookup f_reads_x = some ⟨oc_reads_x, od_reads_x, .func (PySem.W.fnOf "reads_x" "reads_x" (defArgs s_reads_x) (defBody s_reads_x) (defScope s_reads_x) .none kV_reads_x dc_reads_x pm_reads_x an_reads_x cd_reads_x ct_reads_x), sl_reads_x⟩)
    (d_reads_x : PySem.W.codeIn K cd_reads_x "reads_x" = true)
    (k_reads_x : PySem.W.keepIn K (.ref f_reads_x) = true)
    (a_reads_y : PySem.W.nsIn K mainGlobals "reads_y" = some (some (.ref f_reads_y)))
    (l_reads_y : K.lookup f_reads_y = some ⟨oc_reads_y, od_reads_y, .func (PySem.W.fnOf "reads_y" "reads_y" (defArgs s_reads_y) (defBody s_reads_y) (defScope s_reads_y) .none kV_reads_y dc_reads_y pm_reads_y an_reads_y cd_reads_y ct_reads_y), sl_reads_y⟩)
    (d_reads_y : PySem.W.codeIn K cd_reads_y "reads_y" = true)
    (k_reads_y : PySem.W.keepIn K (.ref f_reads_y) = true)
    (a_is_step : PySem.W.nsIn K mainGlobals "is_step" = some (some (.ref f_is_step)))
    (l_is_step : K.lookup f_is_step = some ⟨oc_is_step, od_is_step, .func (PySem.W.fnOf "is_step" "is_step" (defArgs s_is_step) (defBody s_is_step) (defScope s_is_step) .none kV_is_step dc_is_step pm_is_step an_is_step cd_is_step ct_is_step), sl_is_step⟩)
    (d_is_step : PySem.W.codeIn K cd_is_step "is_step" = true)
    (k_is_step : PySem.W.keepIn K (.ref f_is_step) = true)
    (a_Block_new : PySem.W.findIn K (.ref C_Block) "__init__" = some (some (.ref f_Block_new)))
    (i_Block_new : PySem.W.isFn K (.ref f_Block_new) = true)
    (l_Block_new : K.lookup f_Block_new = some ⟨oc_Block_new, od_Block_new, .func (PySem.W.fnOf "__init__" "Block.__init__" (defArgs s_Block_new) (defBody s_Block_new) (defScope s_Block_new) .none kV_Block_new dc_Block_new pm_Block_new an_Block_new cd_Block_new ct_Block_new), sl_Block_new⟩)
    (d_Block_new : PySem.W.codeIn K cd_Block_new "Block.__init__" = true)
    (k_Block_new : PySem.W.keepIn K (.ref f_Block_new) = true)
    (a_Body_new : PySem.W.findIn K (.ref C_Body) "__init__" = some (some (.ref f_Body_new)))
    (i_Body_new : PySem.W.isFn K (.ref f_Body_new) = true)
    (l_Body_new : K.lookup f_Body_new = some ⟨oc_Body_new, od_Body_new, .func (PySem.W.fnOf "__init__" "Body.__init__" (defArgs s_Body_new) (defBody s_Body_new) (defScope s_Body_new) .none kV_Body_new dc_Body_new pm_Body_new an_Body_new cd_Body_new ct_Body_new), sl_Body_new⟩)
    (d_Body_new : PySem.W.codeIn K cd_Body_new "Body.__init__" = true)
    (k_Body_new : PySem.W.keepIn K (.ref f_Body_new) = true)
    (a_Body_init : PySem.W.findIn K (.ref C_Body) "init" = some (some (.ref f_Body_init)))
    (i_Body_init : PySem.W.isFn K (.ref f_Body_init) = true)
    (l_Body_init : K.lookup f_Body_init = some ⟨oc_Body_init, od_Body_init, .func (PySem.W.fnOf "init" "Body.init" (defArgs s_Body_init) (defBody s_Body_init) (defScope s_Body_init) .none kV_Body_init dc_Body_init pm_Body_init an_Body_init cd_Body_init ct_Body_init), sl_Body_init⟩)
    (d_Body_init : PySem.W.codeIn K cd_Body_init "Body.init" = true)
    (k_Body_init : PySem.W.keepIn K (.ref f_Body_init) = true)
    (a_Body_block : PySem.W.findIn K (.ref C_Body) "block" = some (some (.ref f_Body_block)))
    (i_Body_block : PySem.W.isFn K (.ref f_Body_block) = true)
    (l_Body_block : K.lookup f_Body_block = some ⟨oc_Body_block, od_Body_block, .func (PySem.W.fnOf "block" "Body.block" (defArgs s_Body_block) (defBody s_Body_block) (defScope s_Body_block) .none kV_Body_block dc_Body_block pm_Body_block an_Body_block cd_Body_block ct_Body_block), sl_Body_block⟩)
    (d_Body_block : PySem.W.codeIn K cd_Body_block "Body.block" = true)
    (k_Body_block : PySem.W.keepIn K (.ref f_Body_block) = true)
    (a_Body_has_block : PySem.W.findIn K (.ref C_Body) "has_block" = some (some (.ref f_Body_has_block)))
    (i_Body_has_block : PySem.W.isFn K (.ref f_Body_has_block) = true)
    (l_Body_has_block : K.lookup f_Body_has_block = some ⟨oc_Body_has_block, od_Body_has_block, .func (PySem.W.fnOf "has_block" "Body.has_block" (defArgs s_Body_has_block) (defBody s_Body_has_block) (defScope s_Body_has_block) .none kV_Body_has_block dc_Body_has_block pm_Body_has_block an_Body_has_block cd_Body_has_block ct_Body_has_block), sl_Body_has_block⟩)
    (d_Body_has_block : PySem.W.codeIn K cd_Body_has_block "Body.has_block" = true)
    (k_Body_has_block : PySem.W.keepIn K (.ref f_Body_has_block) = true)
    (a_Body_is_unended : PySem.W.findIn K (.ref C_Body) "is_unended" = some (some (.ref f_Body_is_unended)))
    (i_Body_is_unended : PySem.W.isFn K (.ref f_Body_is_unended) = true)
    (l_Body_is_unended : K.lookup f_Body_is_unended = some ⟨oc_Body_is_unended, od_Body_is_unended, .func (PySem.W.fnOf "is_unended" "Body.is_unended" (defArgs s_Body_is_unended) (defBody s_Body_is_unended) (defScope s_Body_is_unended) .none kV_Body_is_unended dc_Body_is_unended pm_Body_is_unended an_Body_is_unended cd_Body_is_unended ct_Body_is_unended), sl_Body_is_unended⟩)
    (d_Body_is_unended : PySem.W.codeIn K cd_Body_is_unended "Body.is_unended" = true)
    (k_Body_is_unended : PySem.W.keepIn K (.ref f_Body_is_unended) = true)
    (a_Body_op : PySem.W.findIn K (.ref C_Body) "op" = some (some (.ref f_Body_op)))
    (i_Body_op : PySem.W.isFn K (.ref f_Body_op) = true)
    (l_Body_op : K.lookup f_Body_op = some ⟨oc_Body_op, od_Body_op, .func (PySem.W.fnOf "op" "Body.op" (defArgs s_Body_op) (defBody s_Body_op) (defScope s_Body_op) .none kV_Body_op dc_Body_op pm_Body_op an_Body_op cd_Body_op ct_Body_op), sl_Body_op⟩)
    (d_Body_op : PySem.W.codeIn K cd_Body_op "Body.op" = true)
    (k_Body_op : PySem.W.keepIn K (.ref f_Body_op) = true)
    (a_Body_jump : PySem.W.findIn K (.ref C_Body) "jump" = some (some (.ref f_Body_jump)))
    (i_Body_jump : PySem.W.isFn K (.ref f_Body_jump) = true)
    (l_Body_jump : K.lookup f_Body_jump = some ⟨oc_Body_jump, od_Body_jump, .func (PySem.W.fnOf "jump" "Body.jump" (defArgs s_Body_jump) (defBody s_Body_jump) (defScope s_Body_jump) .none kV_Body_jump dc_Body_jump pm_Body_jump an_Body_jump cd_Body_jump ct_Body_jump), sl_Body_jump⟩)
    (d_Body_jump : PySem.W.codeIn K cd_Body_jump "Body.jump" = true)
    (k_Body_jump : PySem.W.keepIn K (.ref f_Body_jump) = true)
    (a_Body_branch : PySem.W.findIn K (.ref C_Body) "branch" = some (some (.ref f_Body_branch)))
    (i_Body_branch : PySem.W.isFn K (.ref f_Body_branch) = true)
    (l_Body_branch : K.lookup f_Body_branch = some ⟨oc_Body_branch, od_Body_branch, .func (PySem.W.fnOf "branch" "Body.branch" (defArgs s_Body_branch) (defBody s_Body_branch) (defScope s_Body_branch) .none kV_Body_branch dc_Body_branch pm_Body_branch an_Body_branch cd_Body_branch ct_Body_branch), sl_Body_branch⟩)
    (d_Body_branch : PySem.W.codeIn K cd_Body_branch "Body.branch" = true)
    (k_Body_branch : PySem.W.keepIn K (.ref f_Body_branch) = true)
    (a_Body_ret : PySem.W.findIn K (.ref C_Body) "ret" = some (some (.ref f_Body_ret)))
    (i_Body_ret : PySem.W.isFn K (.ref f_Body_ret) = true)
    (l_Body_ret : K.lookup f_Body_ret = some ⟨oc_Body_ret, od_Body_ret, .func (PySem.W.fnOf "ret" "Body.ret" (defArgs s_Body_ret) (defBody s_Body_ret) (defScope s_Body_ret) .none kV_Body_ret dc_Body_ret pm_Body_ret an_Body_ret cd_Body_ret ct_Body_ret), sl_Body_ret⟩)
    (d_Body_ret : PySem.W.codeIn K cd_Body_ret "Body.ret" = true)
    (k_Body_ret : PySem.W.keepIn K (.ref f_Body_ret) = true)
    (a_holds : PySem.W.nsIn K mainGlobals "holds" = some (some (.ref f_holds)))
    (l_holds : K.lookup f_holds = some ⟨oc_holds, od_holds, .func (PySem.W.fnOf "holds" "holds" (defArgs s_holds) (defBody s_holds) (defScope s_holds) .none kV_holds dc_holds pm_holds an_holds cd_holds ct_holds), sl_holds⟩)
    (d_holds : PySem.W.codeIn K cd_holds "holds" = true)
    (k_holds : PySem.W.keepIn K (.ref f_holds) = true)
    (a_behind : PySem.W.nsIn K mainGlobals "behind" = some (some (.ref f_behind)))
    (l_behind : K.lookup f_behind = some ⟨oc_behind, od_behind, .func (PySem.W.fnOf "behind" "behind" (defArgs s_behind) (defBody s_behind) (defScope s_behind) .none kV_behind dc_behind pm_behind an_behind cd_behind ct_behind), sl_behind⟩)
    (d_behind : PySem.W.codeIn K cd_behind "behind" = true)
    (k_behind : PySem.W.keepIn K (.ref f_behind) = true)
    (a_behind_each : PySem.W.nsIn K mainGlobals "behind_each" = some (some (.ref f_behind_each)))
    (l_behind_each : K.lookup f_behind_each = some ⟨oc_behind_each, od_behind_each, .func (PySem.W.fnOf "behind_each" "behind_each" (defArgs s_behind_each) (defBody s_behind_each) (defScope s_behind_each) .none kV_behind_each dc_behind_each pm_behind_each an_behind_each cd_behind_each ct_behind_each), sl_behind_each⟩)
    (d_behind_each : PySem.W.codeIn K cd_behind_each "behind_each" = true)
    (k_behind_each : PySem.W.keepIn K (.ref f_behind_each) = true)
    (a_reached_without : PySem.W.nsIn K mainGlobals "reached_without" = some (some (.ref f_reached_without)))
    (l_reached_without : K.lookup f_reached_without = some ⟨oc_reached_without, od_reached_without, .func (PySem.W.fnOf "reached_without" "reached_without" (defArgs s_reached_without) (defBody s_reached_without) (defScope s_reached_without) .none kV_reached_without dc_reached_without pm_reached_without an_reached_without cd_reached_without ct_reached_without), sl_reached_without⟩)
    (d_reached_without : PySem.W.codeIn K cd_reached_without "reached_without" = true)
    (k_reached_without : PySem.W.keepIn K (.ref f_reached_without) = true)
    (a_under : PySem.W.nsIn K mainGlobals "under" = some (some (.ref f_under)))
    (l_under : K.lookup f_under = some ⟨oc_under, od_under, .func (PySem.W.fnOf "under" "under" (defArgs s_under) (defBody s_under) (defScope s_under) .none kV_under dc_under pm_under an_under cd_under ct_under), sl_under⟩)
    (d_under : PySem.W.codeIn K cd_under "under" = true)
    (k_under : PySem.W.keepIn K (.ref f_under) = true)
    (a_under_each : PySem.W.nsIn K mainGlobals "under_each" = some (some (.ref f_under_each)))
    (l_under_each : K.lookup f_under_each = some ⟨oc_under_each, od_under_each, .func (PySem.W.fnOf "under_each" "under_each" (defArgs s_under_each) (defBody s_under_each) (defScope s_under_each) .none kV_under_each dc_under_each pm_under_each an_under_each cd_under_each ct_under_each), sl_under_each⟩)
    (d_under_each : PySem.W.codeIn K cd_under_each "under_each" = true)
    (k_under_each : PySem.W.keepIn K (.ref f_under_each) = true)
    (a_over : PySem.W.nsIn K mainGlobals "over" = some (some (.ref f_over)))
    (l_over : K.lookup f_over = some ⟨oc_over, od_over, .func (PySem.W.fnOf "over" "over" (defArgs s_over) (defBody s_over) (defScope s_over) .none kV_over dc_over pm_over an_over cd_over ct_over), sl_over⟩)
    (d_over : PySem.W.codeIn K cd_over "over" = true)
    (k_over : PySem.W.keepIn K (.ref f_over) = true)
    (a_idom : PySem.W.nsIn K mainGlobals "idom" = some (some (.ref f_idom)))
    (l_idom : K.lookup f_idom = some ⟨oc_idom, od_idom, .func (PySem.W.fnOf "idom" "idom" (defArgs s_idom) (defBody s_idom) (defScope s_idom) .none kV_idom dc_idom pm_idom an_idom cd_idom ct_idom), sl_idom⟩)
    (d_idom : PySem.W.codeIn K cd_idom "idom" = true)
    (k_idom : PySem.W.keepIn K (.ref f_idom) = true)
    (a_used_by_step : PySem.W.nsIn K mainGlobals "used_by_step" = some (some (.ref f_used_by_step)))
    (l_used_by_step : K.lookup f_used_by_step = some ⟨oc_used_by_step, od_used_by_step, .func (PySem.W.fnOf "used_by_step" "used_by_step" (defArgs s_used_by_step) (defBody s_used_by_step) (defScope s_used_by_step) .none kV_used_by_step dc_used_by_step pm_used_by_step an_used_by_step cd_used_by_step ct_used_by_step), sl_used_by_step⟩)
    (d_used_by_step : PySem.W.codeIn K cd_used_by_step "used_by_step" = true)
    (k_used_by_step : PySem.W.keepIn K (.ref f_used_by_step) = true)
    (a_used_by_end : PySem.W.nsIn K mainGlobals "used_by_end" = some (some (.ref f_used_by_end)))
    (l_used_by_end : K.lookup f_used_by_end = some ⟨oc_used_by_end, od_used_by_end, .func (PySem.W.fnOf "used_by_end" "used_by_end" (defArgs s_used_by_end) (defBody s_used_by_end) (defScope s_used_by_end) .none kV_used_by_end dc_used_by_end pm_used_by_end an_used_by_end cd_used_by_end ct_used_by_end), sl_used_by_end⟩)
    (d_used_by_end : PySem.W.codeIn K cd_used_by_end "used_by_end" = true)
    (k_used_by_end : PySem.W.keepIn K (.ref f_used_by_end) = true)
    (a_given_by : PySem.W.nsIn K mainGlobals "given_by" = some (some (.ref f_given_by)))
    (l_given_by : K.lookup f_given_by = some ⟨oc_given_by, od_given_by, .func (PySem.W.fnOf "given_by" "given_by" (defArgs s_given_by) (defBody s_given_by) (defScope s_given_by) .none kV_given_by dc_given_by pm_given_by an_given_by cd_given_by ct_given_by), sl_given_by⟩)
    (d_given_by : PySem.W.codeIn K cd_given_by "given_by" = true)
    (k_given_by : PySem.W.keepIn K (.ref f_given_by) = true)
    (a_ahead_of_step : PySem.W.nsIn K mainGlobals "ahead_of_step" = some (some (.ref f_ahead_of_step)))
    (l_ahead_of_step : K.lookup f_ahead_of_step = some ⟨oc_ahead_of_step, od_ahead_of_step, .func (PySem.W.fnOf "ahead_of_step" "ahead_of_step" (defArgs s_ahead_of_step) (defBody s_ahead_of_step) (defScope s_ahead_of_step) .none kV_ahead_of_step dc_ahead_of_step pm_ahead_of_step an_ahead_of_step cd_ahead_of_step ct_ahead_of_step), sl_ahead_of_step⟩)
    (d_ahead_of_step : PySem.W.codeIn K cd_ahead_of_step "ahead_of_step" = true)
    (k_ahead_of_step : PySem.W.keepIn K (.ref f_ahead_of_step) = true)
    (a_used_first : PySem.W.nsIn K mainGlobals "used_first" = some (some (.ref f_used_first)))
    (l_used_first : K.lookup f_used_first = some ⟨oc_used_first, od_used_first, .func (PySem.W.fnOf "used_first" "used_first" (defArgs s_used_first) (defBody s_used_first) (defScope s_used_first) .none kV_used_first dc_used_first pm_used_first an_used_first cd_used_first ct_used_first), sl_used_first⟩)
    (d_used_first : PySem.W.codeIn K cd_used_first "used_first" = true)
    (k_used_first : PySem.W.keepIn K (.ref f_used_first) = true)
    (a_in_any : PySem.W.nsIn K mainGlobals "in_any" = some (some (.ref f_in_any)))
    (l_in_any : K.lookup f_in_any = some ⟨oc_in_any, od_in_any, .func (PySem.W.fnOf "in_any" "in_any" (defArgs s_in_any) (defBody s_in_any) (defScope s_in_any) .none kV_in_any dc_in_any pm_in_any an_in_any cd_in_any ct_in_any), sl_in_any⟩)
    (d_in_any : PySem.W.codeIn K cd_in_any "in_any" = true)
    (k_in_any : PySem.W.keepIn K (.ref f_in_any) = true)
    (a_in_each : PySem.W.nsIn K mainGlobals "in_each" = some (some (.ref f_in_each)))
    (l_in_each : K.lookup f_in_each = some ⟨oc_in_each, od_in_each, .func (PySem.W.fnOf "in_each" "in_each" (defArgs s_in_each) (defBody s_in_each) (defScope s_in_each) .none kV_in_each dc_in_each pm_in_each an_in_each cd_in_each ct_in_each), sl_in_each⟩)
    (d_in_each : PySem.W.codeIn K cd_in_each "in_each" = true)
    (k_in_each : PySem.W.keepIn K (.ref f_in_each) = true)
    (a_in_of : PySem.W.nsIn K mainGlobals "in_of" = some (some (.ref f_in_of)))
    (l_in_of : K.lookup f_in_of = some ⟨oc_in_of, od_in_of, .func (PySem.W.fnOf "in_of" "in_of" (defArgs s_in_of) (defBody s_in_of) (defScope s_in_of) .none kV_in_of dc_in_of pm_in_of an_in_of cd_in_of ct_in_of), sl_in_of⟩)
    (d_in_of : PySem.W.codeIn K cd_in_of "in_of" = true)
    (k_in_of : PySem.W.keepIn K (.ref f_in_of) = true)
    (a_out : PySem.W.nsIn K mainGlobals "out" = some (some (.ref f_out)))
    (l_out : K.lookup f_out = some ⟨oc_out, od_out, .func (PySem.W.fnOf "out" "out" (defArgs s_out) (defBody s_out) (defScope s_out) .none kV_out dc_out pm_out an_out cd_out ct_out), sl_out⟩)
    (d_out : PySem.W.codeIn K cd_out "out" = true)
    (k_out : PySem.W.keepIn K (.ref f_out) = true)
    (a_mark_steps : PySem.W.nsIn K mainGlobals "mark_steps" = some (some (.ref f_mark_steps)))
    (l_mark_steps : K.lookup f_mark_steps = some ⟨oc_mark_steps, od_mark_steps, .func (PySem.W.fnOf "mark_steps" "mark_steps" (defArgs s_mark_steps) (defBody s_mark_steps) (defScope s_mark_steps) .none kV_mark_steps dc_mark_steps pm_mark_steps an_mark_steps cd_mark_steps ct_mark_steps), sl_mark_steps⟩)
    (d_mark_steps : PySem.W.codeIn K cd_mark_steps "mark_steps" = true)
    (k_mark_steps : PySem.W.keepIn K (.ref f_mark_steps) = true)
    (a_both_ways : PySem.W.nsIn K mainGlobals "both_ways" = some (some (.ref f_both_ways)))
    (l_both_ways : K.lookup f_both_ways = some ⟨oc_both_ways, od_both_ways, .func (PySem.W.fnOf "both_ways" "both_ways" (defArgs s_both_ways) (defBody s_both_ways) (defScope s_both_ways) .none kV_both_ways dc_both_ways pm_both_ways an_both_ways cd_both_ways ct_both_ways), sl_both_ways⟩)
    (d_both_ways : PySem.W.codeIn K cd_both_ways "both_ways" = true)
    (k_both_ways : PySem.W.keepIn K (.ref f_both_ways) = true)
    (a_clash_each : PySem.W.nsIn K mainGlobals "clash_each" = some (some (.ref f_clash_each)))
    (l_clash_each : K.lookup f_clash_each = some ⟨oc_clash_each, od_clash_each, .func (PySem.W.fnOf "clash_each" "clash_each" (defArgs s_clash_each) (defBody s_clash_each) (defScope s_clash_each) .none kV_clash_each dc_clash_each pm_clash_each an_clash_each cd_clash_each ct_clash_each), sl_clash_each⟩)
    (d_clash_each : PySem.W.codeIn K cd_clash_each "clash_each" = true)
    (k_clash_each : PySem.W.keepIn K (.ref f_clash_each) = true)
    (a_clash : PySem.W.nsIn K mainGlobals "clash" = some (some (.ref f_clash)))
    (l_clash : K.lookup f_clash = some ⟨oc_clash, od_clash, .func (PySem.W.fnOf "clash" "clash" (defArgs s_clash) (defBody s_clash) (defScope s_clash) .none kV_clash dc_clash pm_clash an_clash cd_clash ct_clash), sl_clash⟩)
    (d_clash : PySem.W.codeIn K cd_clash "clash" = true)
    (k_clash : PySem.W.keepIn K (.ref f_clash) = true)
    (a_least_free : PySem.W.nsIn K mainGlobals "least_free" = some (some (.ref f_least_free)))
    (l_least_free : K.lookup f_least_free = some ⟨oc_least_free, od_least_free, .func (PySem.W.fnOf "least_free" "least_free" (defArgs s_least_free) (defBody s_least_free) (defScope s_least_free) .none kV_least_free dc_least_free pm_least_free an_least_free cd_least_free ct_least_free), sl_least_free⟩)
    (d_least_free : PySem.W.codeIn K cd_least_free "least_free" = true)
    (k_least_free : PySem.W.keepIn K (.ref f_least_free) = true)
    (a_registers : PySem.W.nsIn K mainGlobals "registers" = some (some (.ref f_registers)))
    (l_registers : K.lookup f_registers = some ⟨oc_registers, od_registers, .func (PySem.W.fnOf "registers" "registers" (defArgs s_registers) (defBody s_registers) (defScope s_registers) .none kV_registers dc_registers pm_registers an_registers cd_registers ct_registers), sl_registers⟩)
    (d_registers : PySem.W.codeIn K cd_registers "registers" = true)
    (k_registers : PySem.W.keepIn K (.ref f_registers) = true)
    (a_front_of : PySem.W.nsIn K mainGlobals "front_of" = some (some (.ref f_front_of)))
    (l_front_of : K.lookup f_front_of = some ⟨oc_front_of, od_front_of, .func (PySem.W.fnOf "front_of" "front_of" (defArgs s_front_of) (defBody s_front_of) (defScope s_front_of) .none kV_front_of dc_front_of pm_front_of an_front_of cd_front_of ct_front_of), sl_front_of⟩)
    (d_front_of : PySem.W.codeIn K cd_front_of "front_of" = true)
    (k_front_of : PySem.W.keepIn K (.ref f_front_of) = true)
    (a_front : PySem.W.nsIn K mainGlobals "front" = some (some (.ref f_front)))
    (l_front : K.lookup f_front = some ⟨oc_front, od_front, .func (PySem.W.fnOf "front" "front" (defArgs s_front) (defBody s_front) (defScope s_front) .none kV_front dc_front pm_front an_front cd_front ct_front), sl_front⟩)
    (d_front : PySem.W.codeIn K cd_front "front" = true)
    (k_front : PySem.W.keepIn K (.ref f_front) = true)
    (a_coming_to : PySem.W.nsIn K mainGlobals "coming_to" = some (some (.ref f_coming_to)))
    (l_coming_to : K.lookup f_coming_to = some ⟨oc_coming_to, od_coming_to, .func (PySem.W.fnOf "coming_to" "coming_to" (defArgs s_coming_to) (defBody s_coming_to) (defScope s_coming_to) .none kV_coming_to dc_coming_to pm_coming_to an_coming_to cd_coming_to ct_coming_to), sl_coming_to⟩)
    (d_coming_to : PySem.W.codeIn K cd_coming_to "coming_to" = true)
    (k_coming_to : PySem.W.keepIn K (.ref f_coming_to) = true)
    (a_loop : PySem.W.nsIn K mainGlobals "loop" = some (some (.ref f_loop)))
    (l_loop : K.lookup f_loop = some ⟨oc_loop, od_loop, .func (PySem.W.fnOf "loop" "loop" (defArgs s_loop) (defBody s_loop) (defScope s_loop) .none kV_loop dc_loop pm_loop an_loop cd_loop ct_loop), sl_loop⟩)
    (d_loop : PySem.W.codeIn K cd_loop "loop" = true)
    (k_loop : PySem.W.keepIn K (.ref f_loop) = true)
    (a_front_each : PySem.W.nsIn K mainGlobals "front_each" = some (some (.ref f_front_each)))
    (l_front_each : K.lookup f_front_each = some ⟨oc_front_each, od_front_each, .func (PySem.W.fnOf "front_each" "front_each" (defArgs s_front_each) (defBody s_front_each) (defScope s_front_each) .none kV_front_each dc_front_each pm_front_each an_front_each cd_front_each ct_front_each), sl_front_each⟩)
    (d_front_each : PySem.W.codeIn K cd_front_each "front_each" = true)
    (k_front_each : PySem.W.keepIn K (.ref f_front_each) = true)
    (a_made_each : PySem.W.nsIn K mainGlobals "made_each" = some (some (.ref f_made_each)))
    (l_made_each : K.lookup f_made_each = some ⟨oc_made_each, od_made_each, .func (PySem.W.fnOf "made_each" "made_each" (defArgs s_made_each) (defBody s_made_each) (defScope s_made_each) .none kV_made_each dc_made_each pm_made_each an_made_each cd_made_each ct_made_each), sl_made_each⟩)
    (d_made_each : PySem.W.codeIn K cd_made_each "made_each" = true)
    (k_made_each : PySem.W.keepIn K (.ref f_made_each) = true)
    (a_meet_each : PySem.W.nsIn K mainGlobals "meet_each" = some (some (.ref f_meet_each)))
    (l_meet_each : K.lookup f_meet_each = some ⟨oc_meet_each, od_meet_each, .func (PySem.W.fnOf "meet_each" "meet_each" (defArgs s_meet_each) (defBody s_meet_each) (defScope s_meet_each) .none kV_meet_each dc_meet_each pm_meet_each an_meet_each cd_meet_each ct_meet_each), sl_meet_each⟩)
    (d_meet_each : PySem.W.codeIn K cd_meet_each "meet_each" = true)
    (k_meet_each : PySem.W.keepIn K (.ref f_meet_each) = true)
    (a_meet : PySem.W.nsIn K mainGlobals "meet" = some (some (.ref f_meet)))
    (l_meet : K.lookup f_meet = some ⟨oc_meet, od_meet, .func (PySem.W.fnOf "meet" "meet" (defArgs s_meet) (defBody s_meet) (defScope s_meet) .none kV_meet dc_meet pm_meet an_meet cd_meet ct_meet), sl_meet⟩)
    (d_meet : PySem.W.codeIn K cd_meet "meet" = true)
    (k_meet : PySem.W.keepIn K (.ref f_meet) = true)
    (a_as_long : PySem.W.nsIn K mainGlobals "as_long" = some (some (.ref f_as_long)))
    (l_as_long : K.lookup f_as_long = some ⟨oc_as_long, od_as_long, .func (PySem.W.fnOf "as_long" "as_long" (defArgs s_as_long) (defBody s_as_long) (defScope s_as_long) .none kV_as_long dc_as_long pm_as_long an_as_long cd_as_long ct_as_long), sl_as_long⟩)
    (d_as_long : PySem.W.codeIn K cd_as_long "as_long" = true)
    (k_as_long : PySem.W.keepIn K (.ref f_as_long) = true)
    (a_step_value : PySem.W.nsIn K mainGlobals "step_value" = some (some (.ref f_step_value)))
    (l_step_value : K.lookup f_step_value = some ⟨oc_step_value, od_step_value, .func (PySem.W.fnOf "step_value" "step_value" (defArgs s_step_value) (defBody s_step_value) (defScope s_step_value) .none kV_step_value dc_step_value pm_step_value an_step_value cd_step_value ct_step_value), sl_step_value⟩)
    (d_step_value : PySem.W.codeIn K cd_step_value "step_value" = true)
    (k_step_value : PySem.W.keepIn K (.ref f_step_value) = true)
    (a_take_steps : PySem.W.nsIn K mainGlobals "take_steps" = some (some (.ref f_take_steps)))
    (l_take_steps : K.lookup f_take_steps = some ⟨oc_take_steps, od_take_steps, .func (PySem.W.fnOf "take_steps" "take_steps" (defArgs s_take_steps) (defBody s_take_steps) (defScope s_take_steps) .none kV_take_steps dc_take_steps pm_take_steps an_take_steps cd_take_steps ct_take_steps), sl_take_steps⟩)
    (d_take_steps : PySem.W.codeIn K cd_take_steps "take_steps" = true)
    (k_take_steps : PySem.W.keepIn K (.ref f_take_steps) = true)
    (a_goal_of : PySem.W.nsIn K mainGlobals "goal_of" = some (some (.ref f_goal_of)))
    (l_goal_of : K.lookup f_goal_of = some ⟨oc_goal_of, od_goal_of, .func (PySem.W.fnOf "goal_of" "goal_of" (defArgs s_goal_of) (defBody s_goal_of) (defScope s_goal_of) .none kV_goal_of dc_goal_of pm_goal_of an_goal_of cd_goal_of ct_goal_of), sl_goal_of⟩)
    (d_goal_of : PySem.W.codeIn K cd_goal_of "goal_of" = true)
    (k_goal_of : PySem.W.keepIn K (.ref f_goal_of) = true)
    (a_run : PySem.W.nsIn K mainGlobals "run" = some (some (.ref f_run)))
    (l_run : K.lookup f_run = some ⟨oc_run, od_run, .func (PySem.W.fnOf "run" "run" (defArgs s_run) (defBody s_run) (defScope s_run) .none kV_run dc_run pm_run an_run cd_run ct_run), sl_run⟩)
    (d_run : PySem.W.codeIn K cd_run "run" = true)
    (k_run : PySem.W.keepIn K (.ref f_run) = true)
    (a_changed : PySem.W.nsIn K mainGlobals "changed" = some (some (.ref f_changed)))
    (l_changed : K.lookup f_changed = some ⟨oc_changed, od_changed, .func (PySem.W.fnOf "changed" "changed" (defArgs s_changed) (defBody s_changed) (defScope s_changed) .none kV_changed dc_changed pm_changed an_changed cd_changed ct_changed), sl_changed⟩)
    (d_changed : PySem.W.codeIn K cd_changed "changed" = true)
    (k_changed : PySem.W.keepIn K (.ref f_changed) = true)
    (a_found : PySem.W.nsIn K mainGlobals "found" = some (some (.ref f_found)))
    (l_found : K.lookup f_found = some ⟨oc_found, od_found, .func (PySem.W.fnOf "found" "found" (defArgs s_found) (defBody s_found) (defScope s_found) .none kV_found dc_found pm_found an_found cd_found ct_found), sl_found⟩)
    (d_found : PySem.W.codeIn K cd_found "found" = true)
    (k_found : PySem.W.keepIn K (.ref f_found) = true)
    (a_answer : PySem.W.nsIn K mainGlobals "answer" = some (some (.ref f_answer)))
    (l_answer : K.lookup f_answer = some ⟨oc_answer, od_answer, .func (PySem.W.fnOf "answer" "answer" (defArgs s_answer) (defBody s_answer) (defScope s_answer) .none kV_answer dc_answer pm_answer an_answer cd_answer ct_answer), sl_answer⟩)
    (d_answer : PySem.W.codeIn K cd_answer "answer" = true)
    (k_answer : PySem.W.keepIn K (.ref f_answer) = true)
    (a_answers : PySem.W.nsIn K mainGlobals "answers" = some (some (.ref f_answers)))
    (l_answers : K.lookup f_answers = some ⟨oc_answers, od_answers, .func (PySem.W.fnOf "answers" "answers" (defArgs s_answers) (defBody s_answers) (defScope s_answers) .none kV_answers dc_answers pm_answers an_answers cd_answers ct_answers), sl_answers⟩)
    (d_answers : PySem.W.codeIn K cd_answers "answers" = true)
    (k_answers : PySem.W.keepIn K (.ref f_answers) = true) : Txt K mg ⟨C_Block, C_Body, t_NUMBERS_OF⟩ := by
  have F_is_variable := fun_mk (st := s_is_variable) l_is_variable d_is_variable k_is_variable
  have B_is_variable := F_is_variable.binds (ps := ["v"]) fun _ _ _ _ _ _ us hl => match us, hl with | [_], _ => rfl
  have F_is_goal := fun_mk (st := s_is_goal) l_is_goal d_is_goal k_is_goal
  have B_is_goal := F_is_goal.binds (ps := ["to"]) fun _ _ _ _ _ _ us hl => match us, hl with | [_], _ => rfl
  have F_reads_x := fun_mk (st := s_reads_x) l_reads_x d_reads_x k_reads_x
  have B_reads_x := F_reads_x.binds (ps := ["op"]) fun _ _ _ _ _ _ us hl => match us, hl with | [_], _ => rfl
  have F_reads_y := fun_mk (st := s_reads_y) l_reads_y d_reads_y k_reads_y
  have B_reads_y := F_reads_y.binds (ps := ["op"]) fun _ _ _ _ _ _ us hl => match us, hl with | [_], _ => rfl
  have F_is_step := fun_mk (st := s_is_step) l_is_step d_is_step k_is_step
  have B_is_step := F_is_step.binds (ps := ["op", "d", "x", "y"]) fun _ _ _ _ _ _ us hl => match us, hl with | [_, _, _, _], _ => rfl
  have F_Block_new := fun_mk (st := s_Block_new) l_Block_new d_Block_new k_Block_new
  have B_Block_new := F_Block_new.binds (ps := ["self"]) fun _ _ _ _ _ _ us hl => match us, hl with | [_], _ => rfl
  have F_Body_new := fun_mk (st := s_Body_new) l_Body_new d_Body_new k_Body_new
  have B_Body_new := F_Body_new.binds (ps := ["self"]) fun _ _ _ _ _ _ us hl => match us, hl with | [_], _ => rfl
  have F_Body_init := fun_mk (st := s_Body_init) l_Body_init d_Body_init k_Body_init
  have B_Body_init := F_Body_init.binds (ps := ["self"]) fun _ _ _ _ _ _ us hl => match us, hl with | [_], _ => rfl
  have F_Body_block := fun_mk (st := s_Body_block) l_Body_block d_Body_block k_Body_block
  have B_Body_block := F_Body_block.binds (ps := ["self"]) fun _ _ _ _ _ _ us hl => match us, hl with | [_], _ => rfl
  have F_Body_has_block := fun_mk (st := s_Body_has_block) l_Body_has_block d_Body_has_block k_Body_has_block
  have B_Body_has_block := F_Body_has_block.binds (ps := ["self", "b"]) fun _ _ _ _ _ _ us hl => match us, hl with | [_, _], _ => rfl
  have F_Body_is_unended := fun_mk (st := s_Body_is_unended) l_Body_is_unended d_Body_is_unended k_Body_is_unended
  have B_Body_is_unended := F_Body_is_unended.binds (ps := ["self", "b"]) fun _ _ _ _ _ _ us hl => match us, hl with | [_, _], _ => rfl
  have F_Body_op := fun_mk (st := s_Body_op) l_Body_op d_Body_op k_Body_op
  have B_Body_op := F_Body_op.binds (ps := ["self", "b", "op", "d", "x", "y"]) fun _ _ _ _ _ _ us hl => match us, hl with | [_, _, _, _, _, _], _ => rfl
  have F_Body_jump := fun_mk (st := s_Body_jump) l_Body_jump d_Body_jump k_Body_jump
  have B_Body_jump := F_Body_jump.binds (ps := ["self", "b", "to"]) fun _ _ _ _ _ _ us hl => match us, hl with | [_, _, _], _ => rfl
  have F_Body_branch := fun_mk (st := s_Body_branch) l_Body_branch d_Body_branch k_Body_branch
  have B_Body_branch := F_Body_branch.binds (ps := ["self", "b", "v", "yes", "no"]) fun _ _ _ _ _ _ us hl => match us, hl with | [_, _, _, _, _], _ => rfl
  have F_Body_ret := fun_mk (st := s_Body_ret) l_Body_ret d_Body_ret k_Body_ret
  have B_Body_ret := F_Body_ret.binds (ps := ["self", "b", "v"]) fun _ _ _ _ _ _ us hl => match us, hl with | [_, _, _], _ => rfl
  have F_holds := fun_mk (st := s_holds) l_holds d_holds k_holds
  have B_holds := F_holds.binds (ps := ["numbered", "i"]) fun _ _ _ _ _ _ us hl => match us, hl with | [_, _], _ => rfl
  have F_behind := fun_mk (st := s_behind) l_behind d_behind k_behind
  have B_behind := F_behind.binds (ps := ["body", "b"]) fun _ _ _ _ _ _ us hl => match us, hl with | [_, _], _ => rfl
  have F_behind_each := fun_mk (st := s_behind_each) l_behind_each d_behind_each k_behind_each
  have B_behind_each := F_behind_each.binds (ps := ["body"]) fun _ _ _ _ _ _ us hl => match us, hl with | [_], _ => rfl
  have F_reached_without := fun_mk (st := s_reached_without) l_reached_without d_reached_without k_reached_without
  have B_reached_without := F_reached_without.binds (ps := ["leads", "a"]) fun _ _ _ _ _ _ us hl => match us, hl with | [_, _], _ => rfl
  have F_under := fun_mk (st := s_under) l_under d_under k_under
  have B_under := F_under.binds (ps := ["leads", "a"]) fun _ _ _ _ _ _ us hl => match us, hl with | [_, _], _ => rfl
  have F_under_each := fun_mk (st := s_under_each) l_under_each d_under_each k_under_each
  have B_under_each := F_under_each.binds (ps := ["leads"]) fun _ _ _ _ _ _ us hl => match us, hl with | [_], _ => rfl
  have F_over := fun_mk (st := s_over) l_over d_over k_over
  have B_over := F_over.binds (ps := ["body", "a", "b"]) fun _ _ _ _ _ _ us hl => match us, hl with | [_, _, _], _ => rfl
  have F_idom := fun_mk (st := s_idom) l_idom d_idom k_idom
  have B_idom := F_idom.binds (ps := ["body", "b"]) fun _ _ _ _ _ _ us hl => match us, hl with | [_, _], _ => rfl
  have F_used_by_step := fun_mk (st := s_used_by_step) l_used_by_step d_used_by_step k_used_by_step
  have B_used_by_step := F_used_by_step.binds (ps := ["op", "x", "y"]) fun _ _ _ _ _ _ us hl => match us, hl with | [_, _, _], _ => rfl
  have F_used_by_end := fun_mk (st := s_used_by_end) l_used_by_end d_used_by_end k_used_by_end
  have B_used_by_end := F_used_by_end.binds (ps := ["block"]) fun _ _ _ _ _ _ us hl => match us, hl with | [_], _ => rfl
  have F_given_by := fun_mk (st := s_given_by) l_given_by d_given_by k_given_by
  have B_given_by := F_given_by.binds (ps := ["block"]) fun _ _ _ _ _ _ us hl => match us, hl with | [_], _ => rfl
  have F_ahead_of_step := fun_mk (st := s_ahead_of_step) l_ahead_of_step d_ahead_of_step k_ahead_of_step
  have B_ahead_of_step := F_ahead_of_step.binds (ps := ["live", "op", "d", "x", "y"]) fun _ _ _ _ _ _ us hl => match us, hl with | [_, _, _, _, _], _ => rfl
  have F_used_first := fun_mk (st := s_used_first) l_used_first d_used_first k_used_first
  have B_used_first := F_used_first.binds (ps := ["block"]) fun _ _ _ _ _ _ us hl => match us, hl with | [_], _ => rfl
  have F_in_any := fun_mk (st := s_in_any) l_in_any d_in_any k_in_any
  have B_in_any := F_in_any.binds (ps := ["ins", "goals"]) fun _ _ _ _ _ _ us hl => match us, hl with | [_, _], _ => rfl
  have F_in_each := fun_mk (st := s_in_each) l_in_each d_in_each k_in_each
  have B_in_each := F_in_each.binds (ps := ["body"]) fun _ _ _ _ _ _ us hl => match us, hl with | [_], _ => rfl
  have F_in_of := fun_mk (st := s_in_of) l_in_of d_in_of k_in_of
  have B_in_of := F_in_of.binds (ps := ["body", "b"]) fun _ _ _ _ _ _ us hl => match us, hl with | [_, _], _ => rfl
  have F_out := fun_mk (st := s_out) l_out d_out k_out
  have B_out := F_out.binds (ps := ["body", "b"]) fun _ _ _ _ _ _ us hl => match us, hl with | [_, _], _ => rfl
  have F_mark_steps := fun_mk (st := s_mark_steps) l_mark_steps d_mark_steps k_mark_steps
  have B_mark_steps := F_mark_steps.binds (ps := ["clashes", "block", "live"]) fun _ _ _ _ _ _ us hl => match us, hl with | [_, _, _], _ => rfl
  have F_both_ways := fun_mk (st := s_both_ways) l_both_ways d_both_ways k_both_ways
  have B_both_ways := F_both_ways.binds (ps := ["clashes"]) fun _ _ _ _ _ _ us hl => match us, hl with | [_], _ => rfl
  have F_clash_each := fun_mk (st := s_clash_each) l_clash_each d_clash_each k_clash_each
  have B_clash_each := F_clash_each.binds (ps := ["body"]) fun _ _ _ _ _ _ us hl => match us, hl with | [_], _ => rfl
  have F_clash := fun_mk (st := s_clash) l_clash d_clash k_clash
  have B_clash := F_clash.binds (ps := ["body", "v"]) fun _ _ _ _ _ _ us hl => match us, hl with | [_, _], _ => rfl
  have F_least_free := fun_mk (st := s_least_free) l_least_free d_least_free k_least_free
  have B_least_free := F_least_free.binds (ps := ["taken"]) fun _ _ _ _ _ _ us hl => match us, hl with | [_], _ => rfl
  have F_registers := fun_mk (st := s_registers) l_registers d_registers k_registers
  have B_registers := F_registers.binds (ps := ["body", "k"]) fun _ _ _ _ _ _ us hl => match us, hl with | [_, _], _ => rfl
  have F_front_of := fun_mk (st := s_front_of) l_front_of d_front_of k_front_of
  have B_front_of := F_front_of.binds (ps := ["leads", "below", "b"]) fun _ _ _ _ _ _ us hl => match us, hl with | [_, _, _], _ => rfl
  have F_front := fun_mk (st := s_front) l_front d_front k_front
  have B_front := F_front.binds (ps := ["body", "b"]) fun _ _ _ _ _ _ us hl => match us, hl with | [_, _], _ => rfl
  have F_coming_to := fun_mk (st := s_coming_to) l_coming_to d_coming_to k_coming_to
  have B_coming_to := F_coming_to.binds (ps := ["leads", "goals", "b"]) fun _ _ _ _ _ _ us hl => match us, hl with | [_, _, _], _ => rfl
  have F_loop := fun_mk (st := s_loop) l_loop d_loop k_loop
  have B_loop := F_loop.binds (ps := ["body", "b"]) fun _ _ _ _ _ _ us hl => match us, hl with | [_, _], _ => rfl
  have F_front_each := fun_mk (st := s_front_each) l_front_each d_front_each k_front_each
  have B_front_each := F_front_each.binds (ps := ["leads"]) fun _ _ _ _ _ _ us hl => match us, hl with | [_], _ => rfl
  have F_made_each := fun_mk (st := s_made_each) l_made_each d_made_each k_made_each
  have B_made_each := F_made_each.binds (ps := ["body"]) fun _ _ _ _ _ _ us hl => match us, hl with | [_], _ => rfl
  have F_meet_each := fun_mk (st := s_meet_each) l_meet_each d_meet_each k_meet_each
  have B_meet_each := F_meet_each.binds (ps := ["body"]) fun _ _ _ _ _ _ us hl => match us, hl with | [_], _ => rfl
  have F_meet := fun_mk (st := s_meet) l_meet d_meet k_meet
  have B_meet := F_meet.binds (ps := ["body", "b"]) fun _ _ _ _ _ _ us hl => match us, hl with | [_, _], _ => rfl
  have F_as_long := fun_mk (st := s_as_long) l_as_long d_as_long k_as_long
  have B_as_long := F_as_long.binds (ps := ["number"]) fun _ _ _ _ _ _ us hl => match us, hl with | [_], _ => rfl
  have F_step_value := fun_mk (st := s_step_value) l_step_value d_step_value k_step_value
  have B_step_value := F_step_value.binds (ps := ["values", "op", "x", "y"]) fun _ _ _ _ _ _ us hl => match us, hl with | [_, _, _, _], _ => rfl
  have F_take_steps := fun_mk (st := s_take_steps) l_take_steps d_take_steps k_take_steps
  have B_take_steps := F_take_steps.binds (ps := ["values", "steps"]) fun _ _ _ _ _ _ us hl => match us, hl with | [_, _], _ => rfl
  have F_goal_of := fun_mk (st := s_goal_of) l_goal_of d_goal_of k_goal_of
  have B_goal_of := F_goal_of.binds (ps := ["block", "values"]) fun _ _ _ _ _ _ us hl => match us, hl with | [_, _], _ => rfl
  have F_run := fun_mk (st := s_run) l_run d_run k_run
  have B_run := F_run.binds (ps := ["body", "steps", "given"]) fun _ _ _ _ _ _ us hl => match us, hl with | [_, _, _], _ => rfl
  have F_changed := fun_mk (st := s_changed) l_changed d_changed k_changed
  have B_changed := F_changed.binds (ps := ["body", "call", "numbers"]) fun _ _ _ _ _ _ us hl => match us, hl with | [_, _, _], _ => rfl
  have F_found := fun_mk (st := s_found) l_found d_found k_found
  have B_found := F_found.binds (ps := ["body", "call", "number"]) fun _ _ _ _ _ _ us hl => match us, hl with | [_, _, _], _ => rfl
  have F_answer := fun_mk (st := s_answer) l_answer d_answer k_answer
  have B_answer := F_answer.binds (ps := ["body", "call", "numbers", "row"]) fun _ _ _ _ _ _ us hl => match us, hl with | [_, _, _, _], _ => rfl
  have F_answers := fun_mk (st := s_answers) l_answers d_answers k_answers
  have B_answers := F_answers.binds (ps := ["calls"]) fun _ _ _ _ _ _ us hl => match us, hl with | [_], _ => rfl
  exact { c_REFUSED := ⟨_, PySem.W.mg_of X G c_REFUSED, _, rfl⟩, c_MOST_BLOCKS := ⟨_, PySem.W.mg_of X G c_MOST_BLOCKS, _, rfl⟩, c_MOST_STEPS := ⟨_, PySem.W.mg_of X G c_MOST_STEPS, _, rfl⟩, c_VARIABLES := ⟨_, PySem.W.mg_of X G c_VARIABLES, _, rfl⟩, c_ADD := ⟨_, PySem.W.mg_of X G c_ADD, _, rfl⟩, c_SUBTRACT := ⟨_, PySem.W.mg_of X G c_SUBTRACT, _, rfl⟩, c_LESS := ⟨_, PySem.W.mg_of X G c_LESS, _, rfl⟩, c_COPY := ⟨_, PySem.W.mg_of X G c_COPY, _, rfl⟩, c_NUMBER := ⟨_, PySem.W.mg_of X G c_NUMBER, _, rfl⟩, c_NO_END := ⟨_, PySem.W.mg_of X G c_NO_END, _, rfl⟩, c_JUMP_END := ⟨_, PySem.W.mg_of X G c_JUMP_END, _, rfl⟩, c_BRANCH_END := ⟨_, PySem.W.mg_of X G c_BRANCH_END, _, rfl⟩, c_RET_END := ⟨_, PySem.W.mg_of X G c_RET_END, _, rfl⟩, c_NO_BLOCK := ⟨_, PySem.W.mg_of X G c_NO_BLOCK, _, rfl⟩, c_TOO_FEW := ⟨_, PySem.W.mg_of X G c_TOO_FEW, _, rfl⟩, c_USED_UP := ⟨_, PySem.W.mg_of X G c_USED_UP, _, rfl⟩, c_NO_WAY_ON := ⟨_, PySem.W.mg_of X G c_NO_WAY_ON, _, rfl⟩, c_ALL_LONGS := ⟨_, PySem.W.mg_of X G c_ALL_LONGS, _, rfl⟩, c_LONGS_FROM_0 := ⟨_, PySem.W.mg_of X G c_LONGS_FROM_0, _, rfl⟩, c_INIT := ⟨_, PySem.W.mg_of X G c_INIT, _, rfl⟩, c_BLOCK := ⟨_, PySem.W.mg_of X G c_BLOCK, _, rfl⟩, c_OP := ⟨_, PySem.W.mg_of X G c_OP, _, rfl⟩, c_JUMP := ⟨_, PySem.W.mg_of X G c_JUMP, _, rfl⟩, c_BRANCH := ⟨_, PySem.W.mg_of X G c_BRANCH, _, rfl⟩, c_RET := ⟨_, PySem.W.mg_of X G c_RET, _, rfl⟩, c_OVER := ⟨_, PySem.W.mg_of X G c_OVER, _, rfl⟩, c_IDOM := ⟨_, PySem.W.mg_of X G c_IDOM, _, rfl⟩, c_FRONT := ⟨_, PySem.W.mg_of X G c_FRONT, _, rfl⟩, c_LOOP := ⟨_, PySem.W.mg_of X G c_LOOP, _, rfl⟩, c_IN_OF := ⟨_, PySem.W.mg_of X G c_IN_OF, _, rfl⟩, c_OUT := ⟨_, PySem.W.mg_of X G c_OUT, _, rfl⟩, c_MEET := ⟨_, PySem.W.mg_of X G c_MEET, _, rfl⟩, c_CLASH := ⟨_, PySem.W.mg_of X G c_CLASH, _, rfl⟩, c_REGISTERS := ⟨_, PySem.W.mg_of X G c_REGISTERS, _, rfl⟩, c_RUN := ⟨_, PySem.W.mg_of X G c_RUN, _, rfl⟩, b_all := PySem.W.mg_none_of X G b_all, b_enumerate := PySem.W.mg_none_of X G b_enumerate, b_len := PySem.W.mg_none_of X G b_len, b_list := PySem.W.mg_none_of X G b_list, b_max := PySem.W.mg_none_of X G b_max, b_range := PySem.W.mg_none_of X G b_range, b_reversed := PySem.W.mg_none_of X G b_reversed, t_NUMBERS_OF := ⟨_, PySem.W.mg_of X G t0_NUMBERS_OF, rfl⟩, x_NUMBERS_OF := fun _ => .inr ⟨_, _, _, x_NUMBERS_OF, rfl, rfl, (show 16 ≤ sizeLine by decide), (.cons ⟨_, rfl⟩ (.cons ⟨_, rfl⟩ (.cons ⟨_, rfl⟩ (.cons ⟨_, rfl⟩ (.cons ⟨_, rfl⟩ (.cons ⟨_, rfl⟩ (.cons ⟨_, rfl⟩ (.cons ⟨_, rfl⟩ (.cons ⟨_, rfl⟩ (.cons ⟨_, rfl⟩ (.cons ⟨_, rfl⟩ (.cons ⟨_, rfl⟩ (.cons ⟨_, rfl⟩ (.cons ⟨_, rfl⟩ (.cons ⟨_, rfl⟩ (.cons ⟨_, rfl⟩ .nil))))))))))))))))⟩, cl_Block := ⟨pg_Block, hd_Block, po_Block, sa_Block⟩, na_Block_steps := na_Block_steps, na_Block_end := na_Block_end, na_Block_variable := na_Block_variable, na_Block_goals := na_Block_goals, cl_Body := ⟨pg_Body, hd_Body, po_Body, sa_Body⟩, na_Body_blocks := na_Body_blocks, r_is_variable := ⟨_, _, F_is_variable, PySem.W.mg_of X G a_is_variable, B_is_variable⟩, r_is_goal := ⟨_, _, F_is_goal, PySem.W.mg_of X G a_is_goal, B_is_goal⟩, r_reads_x := ⟨_, _, F_reads_x, PySem.W.mg_of X G a_reads_x, B_reads_x⟩, r_reads_y := ⟨_, _, F_reads_y, PySem.W.mg_of X G a_reads_y, B_reads_y⟩, r_is_step := ⟨_, _, F_is_step, PySem.W.mg_of X G a_is_step, B_is_step⟩, r_Block_new := ⟨_, _, F_Block_new, ⟨mk_Block, a_Block_new, i_Block_new, kc_Block⟩, PySem.W.mg_of X G q_Block, B_Block_new⟩, r_Body_new := ⟨_, _, F_Body_new, ⟨mk_Body, a_Body_new, i_Body_new, kc_Body⟩, PySem.W.mg_of X G q_Body, B_Body_new⟩, r_Body_init := ⟨_, _, F_Body_init, ⟨a_Body_init, i_Body_init, k_Body_init⟩, B_Body_init⟩, r_Body_block := ⟨_, _, F_Body_block, ⟨a_Body_block, i_Body_block, k_Body_block⟩, B_Body_block⟩, r_Body_has_block := ⟨_, _, F_Body_has_block, ⟨a_Body_has_block, i_Body_has_block, k_Body_has_block⟩, B_Body_has_block⟩, r_Body_is_unended := ⟨_, _, F_Body_is_unended, ⟨a_Body_is_unended, i_Body_is_unended, k_Body_is_unended⟩, B_Body_is_unended⟩, r_Body_op := ⟨_, _, F_Body_op, ⟨a_Body_op, i_Body_op, k_Body_op⟩, B_Body_op⟩, r_Body_jump := ⟨_, _, F_Body_jump, ⟨a_Body_jump, i_Body_jump, k_Body_jump⟩, B_Body_jump⟩, r_Body_branch := ⟨_, _, F_Body_branch, ⟨a_Body_branch, i_Body_branch, k_Body_branch⟩, B_Body_branch⟩, r_Body_ret := ⟨_, _, F_Body_ret, ⟨a_Body_ret, i_Body_ret, k_Body_ret⟩, B_Body_ret⟩, r_holds := ⟨_, _, F_holds, PySem.W.mg_of X G a_holds, B_holds⟩, r_behind := ⟨_, _, F_behind, PySem.W.mg_of X G a_behind, B_behind⟩, r_behind_each := ⟨_, _, F_behind_each, PySem.W.mg_of X G a_behind_each, B_behind_each⟩, r_reached_without := ⟨_, _, F_reached_without, PySem.W.mg_of X G a_reached_without, B_reached_without⟩, r_under := ⟨_, _, F_under, PySem.W.mg_of X G a_under, B_under⟩, r_under_each := ⟨_, _, F_under_each, PySem.W.mg_of X G a_under_each, B_under_each⟩, r_over := ⟨_, _, F_over, PySem.W.mg_of X G a_over, B_over⟩, r_idom := ⟨_, _, F_idom, PySem.W.mg_of X G a_idom, B_idom⟩, r_used_by_step := ⟨_, _, F_used_by_step, PySem.W.mg_of X G a_used_by_step, B_used_by_step⟩, r_used_by_end := ⟨_, _, F_used_by_end, PySem.W.mg_of X G a_used_by_end, B_used_by_end⟩, r_given_by := ⟨_, _, F_given_by, PySem.W.mg_of X G a_given_by, B_given_by⟩, r_ahead_of_step := ⟨_, _, F_ahead_of_step, PySem.W.mg_of X G a_ahead_of_step, B_ahead_of_step⟩, r_used_first := ⟨_, _, F_used_first, PySem.W.mg_of X G a_used_first, B_used_first⟩, r_in_any := ⟨_, _, F_in_any, PySem.W.mg_of X G a_in_any, B_in_any⟩, r_in_each := ⟨_, _, F_in_each, PySem.W.mg_of X G a_in_each, B_in_each⟩, r_in_of := ⟨_, _, F_in_of, PySem.W.mg_of X G a_in_of, B_in_of⟩, r_out := ⟨_, _, F_out, PySem.W.mg_of X G a_out, B_out⟩, r_mark_steps := ⟨_, _, F_mark_steps, PySem.W.mg_of X G a_mark_steps, B_mark_steps⟩, r_both_ways := ⟨_, _, F_both_ways, PySem.W.mg_of X G a_both_ways, B_both_ways⟩, r_clash_each := ⟨_, _, F_clash_each, PySem.W.mg_of X G a_clash_each, B_clash_each⟩, r_clash := ⟨_, _, F_clash, PySem.W.mg_of X G a_clash, B_clash⟩, r_least_free := ⟨_, _, F_least_free, PySem.W.mg_of X G a_least_free, B_least_free⟩, r_registers := ⟨_, _, F_registers, PySem.W.mg_of X G a_registers, B_registers⟩, r_front_of := ⟨_, _, F_front_of, PySem.W.mg_of X G a_front_of, B_front_of⟩, r_front := ⟨_, _, F_front, PySem.W.mg_of X G a_front, B_front⟩, r_coming_to := ⟨_, _, F_coming_to, PySem.W.mg_of X G a_coming_to, B_coming_to⟩, r_loop := ⟨_, _, F_loop, PySem.W.mg_of X G a_loop, B_loop⟩, r_front_each := ⟨_, _, F_front_each, PySem.W.mg_of X G a_front_each, B_front_each⟩, r_made_each := ⟨_, _, F_made_each, PySem.W.mg_of X G a_made_each, B_made_each⟩, r_meet_each := ⟨_, _, F_meet_each, PySem.W.mg_of X G a_meet_each, B_meet_each⟩, r_meet := ⟨_, _, F_meet, PySem.W.mg_of X G a_meet, B_meet⟩, r_as_long := ⟨_, _, F_as_long, PySem.W.mg_of X G a_as_long, B_as_long⟩, r_step_value := ⟨_, _, F_step_value, PySem.W.mg_of X G a_step_value, B_step_value⟩, r_take_steps := ⟨_, _, F_take_steps, PySem.W.mg_of X G a_take_steps, B_take_steps⟩, r_goal_of := ⟨_, _, F_goal_of, PySem.W.mg_of X G a_goal_of, B_goal_of⟩, r_run := ⟨_, _, F_run, PySem.W.mg_of X G a_run, B_run⟩, r_changed := ⟨_, _, F_changed, PySem.W.mg_of X G a_changed, B_changed⟩, r_found := ⟨_, _, F_found, PySem.W.mg_of X G a_found, B_found⟩, r_answer := ⟨_, _, F_answer, PySem.W.mg_of X G a_answer, B_answer⟩, r_answers := ⟨_, _, F_answers, PySem.W.mg_of X G a_answers, B_answers⟩ }
end BF
end


section
set_option Elab.async false
set_option linter.all false
namespace BF
open PySem PySem.Spec PyProof.Rows L2
open PySem.W (Codec)
theorem f_answers {P : Program} {w : World} {K : PySem.W.Frag} {mg : Str → Option Value} {base : Heap} {A : Ad} (T : Txt K mg A) {f : Addr} {fd : FuncData} (F : Fun K "answers" "answers" s_answers f fd) : FnOk P w K mg base CX0 12 f fd ["calls"] (spAns K) :=
  answers_ok T T.x_NUMBERS_OF (fun T' => d_answer T') F
theorem all_mk {P : Program} {w : World} {K : PySem.W.Frag} {mg : Str → Option Value} {fa : Addr} (T : ∃ A, Txt K mg A) (hfa : mg "answers" = some (.ref fa)) :
    ∃ fd : FuncData, (∀ (s : Shared) (us : List Value), us.length = (["calls"] : List Str).length → BindsTo s fd ⟨us, []⟩ ((["calls"] : List Str).zip us)) ∧ ∀ base : Heap, K.In base → base.Ns mainGlobals mg → FnOk P w K mg base CX0 12 fa fd ["calls"] (spAns K) := by
  obtain ⟨A, T⟩ := T
  obtain ⟨f, fd, F, m, b⟩ := T.r_answers.ex
  rw [hfa] at m
  cases m
  have FF := F
  obtain ⟨oc, od, kV, doc, pm, an, cdv, ct, osl, rfl, lk, hcd⟩ := F.ex
  exact ⟨_, fun s us hu => match us, hu with | [_], _ => .of_eq rfl, fun base _ _ => f_answers T FF⟩
end BF
open PySem PySem.W PyProof.Rows
set_option maxRecDepth 100000 in
set_option maxHeartbeats 0 in
theorem PySem.Challenge.cw_blockflow_s01_answers_holds : PySem.Challenge.rw_blockflow_s01_answers.Holds := by
  w_on
  refine holds_os (q := BF.vw) (loose := []) (Xt := fun s => xlAt BF.vw [] s && recOk [] s) (XP := XL BF.vw []) (Yf := Hook.obs BF.kH) (Ya := Hook.val BF.kH) (YP := Hook.says BF.kH) (N := 5136) BF.hl (Hook.of BF.kH) (Hook.keeps BF.kH) (fun s e => xl_of s (Bool.and_eq_true_iff.mp e).1) XL.keeps
    (by rfl) (by rfl) (by rfl) (fun s e => recFacts_of (Bool.and_eq_true_iff.mp e).2) os_shapes (by decide +kernel) (by decide +kernel) ⟨rfl, rfl, rfl, rfl, rfl, by decide +kernel⟩ ⟨[.list []], by decide +kernel, by decide +kernel⟩ ?hc
  show WalkOS BF.vw [] (XL BF.vw []) (Hook.says (kHook BF.kK BF.asK (fun _ => by kernel_rfl))) PySem.Challenge.rw_blockflow_s01_answers _ _ _
  k_fillS
  refine L2.walk_specK (r := PySem.Challenge.rw_blockflow_s01_answers) (k := 12) (CX := L2.CX0) (ps := ["calls"]) (sp := BF.spAns) (by decide +kernel) rfl rfl ⟨rfl, by decide, by decide⟩ (fun w h Y => PySem.W.kIn_of Y) ?F ?S (fun _ _ _ _ z => z)
  case F =>
    intro w mg fa h Y KX G hmg
    refine BF.all_mk ?T hmg
    case T =>
    refine' Exists.intro _ (BF.txt_mk KX G ?c_REFUSED ?c_MOST_BLOCKS ?c_MOST_STEPS ?c_VARIABLES ?c_ADD ?c_SUBTRACT ?c_LESS ?c_COPY ?c_NUMBER ?c_NO_END ?c_JUMP_END ?c_BRANCH_END ?c_RET_END ?c_NO_BLOCK ?c_TOO_FEW ?c_USED_UP ?c_NO_WAY_ON ?c_ALL_LONGS ?c_LONGS_FROM_0 ?c_INIT ?c_BLOCK ?c_OP ?c_JUMP ?c_BRANCH ?c_RET ?c_OVER ?c_IDOM ?c_FRONT ?c_LOOP ?c_IN_OF ?c_OUT ?c_MEET ?c_CLASH ?c_REGISTERS ?c_RUN ?b_all ?b_enumerate ?b_len ?b_list ?b_max ?b_range ?b_reversed ?t0_NUMBERS_OF ?x_NUMBERS_OF ?q_Block ?pg_Block ?hd_Block ?po_Block ?sa_Block ?mk_Block ?kc_Block ?na_Block_steps ?na_Block_end ?na_Block_variable ?na_Block_goals ?q_Body ?pg_Body ?hd_Body ?po_Body ?sa_Body ?mk_Body ?kc_Body ?na_Body_blocks ?a_is_variable ?l_is_variable ?d_is_variable ?k_is_variable ?a_is_goal ?l_is_goal ?d_is_goal ?k_is_goal ?a_reads_x ?l_reads_x ?d_reads_x ?k_reads_x ?a_reads_y ?l_reads_y ?d_reads_y ?k_reads_y ?a_is_step ?l_is_step ?d_is_step ?k_is_step ?a_Block_new ?i_Block_new ?l_Block_new ?d_Block_new ?k_Block_new ?a_Body_new ?i_Body_new ?l_Body_new ?d_Body_new ?k_Body_new ?a_Body_init ?i_Body_init ?l_Body_init ?d_Body_init ?k_Body_init ?a_Body_block ?i_Body_block ?l_Body_block ?d_Body_block ?k_Body_block ?a_Body_has_block ?i_Body_has_block ?l_Body_has_block ?d_Body_has_block ?k_Body_has_block ?a_Body_is_unended ?i_Body_is_unended ?l_Body_is_unended ?d_Body_is_unended ?k_Body_is_unended ?a_Body_op ?i_Body_op ?l_Body_op ?d_Body_op ?k_Body_op ?a_Body_jump ?i_Body_jump ?l_Body_jump ?d_Body_jump ?k_Body_jump ?a_Body_branch ?i_Body_branch ?l_Body_branch ?d_Body_branch ?k_Body_branch ?a_Body_ret ?i_Body_ret ?l_Body_ret ?d_Body_ret ?k_Body_ret ?a_holds ?l_holds ?d_holds ?k_holds ?a_behind ?l_behind ?d_behind ?k_behind ?a_behind_each ?l_behind_each ?d_behind_each ?k_behind_each ?a_reached_without ?l_reached_without ?d_reached_without ?k_reached_without ?a_under ?l_under ?d_under ?k_under ?a_under_each ?l_under_each ?d_under_each ?k_under_each ?a_over ?l_over ?d_over ?k_over ?a_idom ?l_idom ?d_idom ?k_idom ?a_used_by_step ?l_used_by_step ?d_used_by_step ?k_used_by_step ?a_used_by_end ?l_used_by_end ?d_used_by_end ?k_used_by_end ?a_given_by ?l_given_by ?d_given_by ?k_given_by ?a_ahead_of_step ?l_ahead_of_step ?d_ahead_of_step ?k_ahead_of_step ?a_used_first ?l_used_first ?d_used_first ?k_used_first ?a_in_any ?l_in_any ?d_in_any ?k_in_any ?a_in_each ?l_in_each ?d_in_each ?k_in_each ?a_in_of ?l_in_of ?d_in_of ?k_in_of ?a_out ?l_out ?d_out ?k_out ?a_mark_steps ?l_mark_steps ?d_mark_steps ?k_mark_steps ?a_both_ways ?l_both_ways ?d_both_ways ?k_both_ways ?a_clash_each ?l_clash_each ?d_clash_each ?k_clash_each ?a_clash ?l_clash ?d_clash ?k_clash ?a_least_free ?l_least_free ?d_least_free ?k_least_free ?a_registers ?l_registers ?d_registers ?k_registers ?a_front_of ?l_front_of ?d_front_of ?k_front_of ?a_front ?l_front ?d_front ?k_front ?a_coming_to ?l_coming_to ?d_coming_to ?k_coming_to ?a_loop ?l_loop ?d_loop ?k_loop ?a_front_each ?l_front_each ?d_front_each ?k_front_each ?a_made_each ?l_made_each ?d_made_each ?k_made_each ?a_meet_each ?l_meet_each ?d_meet_each ?k_meet_each ?a_meet ?l_meet ?d_meet ?k_meet ?a_as_long ?l_as_long ?d_as_long ?k_as_long ?a_step_value ?l_step_value ?d_step_value ?k_step_value ?a_take_steps ?l_take_steps ?d_take_steps ?k_take_steps ?a_goal_of ?l_goal_of ?d_goal_of ?k_goal_of ?a_run ?l_run ?d_run ?k_run ?a_changed ?l_changed ?d_changed ?k_changed ?a_found ?l_found ?d_found ?k_found ?a_answer ?l_answer ?d_answer ?k_answer ?a_answers ?l_answers ?d_answers ?k_answers)
    (case c_REFUSED => k_is)
    (case c_MOST_BLOCKS => k_is)
    (case c_MOST_STEPS => k_is)
    (case c_VARIABLES => k_is)
    (case c_ADD => k_is)
    (case c_SUBTRACT => k_is)
    (case c_LESS => k_is)
    (case c_COPY => k_is)
    (case c_NUMBER => k_is)
    (case c_NO_END => k_is)
    (case c_JUMP_END => k_is)
    (case c_BRANCH_END => k_is)
    (case c_RET_END => k_is)
    (case c_NO_BLOCK => k_is)
    (case c_TOO_FEW => k_is)
    (case c_USED_UP => k_is)
    (case c_NO_WAY_ON => k_is)
    (case c_ALL_LONGS => k_is)
    (case c_LONGS_FROM_0 => k_is)
    (case c_INIT => k_is)
    (case c_BLOCK => k_is)
    (case c_OP => k_is)
    (case c_JUMP => k_is)
    (case c_BRANCH => k_is)
    (case c_RET => k_is)
    (case c_OVER => k_is)
    (case c_IDOM => k_is)
    (case c_FRONT => k_is)
    (case c_LOOP => k_is)
    (case c_IN_OF => k_is)
    (case c_OUT => k_is)
    (case c_MEET => k_is)
    (case c_CLASH => k_is)
    (case c_REGISTERS => k_is)
    (case c_RUN => k_is)
    (case b_all => k_is)
    (case b_enumerate => k_is)
    (case b_len => k_is)
    (case b_list => k_is)
    (case b_max => k_is)
    (case b_range => k_is)
    (case b_reversed => k_is)
    (case t0_NUMBERS_OF => k_is)
    (case x_NUMBERS_OF => k_is)
    (case q_Block => k_is)
    (case pg_Block => k_is)
    (case hd_Block => k_is)
    (case po_Block => k_is)
    (case sa_Block => k_is)
    (case mk_Block => k_is)
    (case kc_Block => k_is)
    (case na_Block_steps => k_is)
    (case na_Block_end => k_is)
    (case na_Block_variable => k_is)
    (case na_Block_goals => k_is)
    (case q_Body => k_is)
    (case pg_Body => k_is)
    (case hd_Body => k_is)
    (case po_Body => k_is)
    (case sa_Body => k_is)
    (case mk_Body => k_is)
    (case kc_Body => k_is)
    (case na_Body_blocks => k_is)
    (case a_is_variable => k_is)
    (case l_is_variable => k_is)
    (case d_is_variable => k_is)
    (case k_is_variable => k_is)
    (case a_is_goal => k_is)
    (case l_is_goal => k_is)
    (case d_is_goal => k_is)
    (case k_is_goal => k_is)
    (case a_reads_x => k_is)
    (case l_reads_x => k_is)
    (case d_reads_x => k_is)
    (case k_reads_x => k_is)
    (case a_reads_y => k_is)
    (case l_reads_y => k_is)
    (case d_reads_y => k_is)
    (case k_reads_y => k_is)
    (case a_is_step => k_is)
    (case l_is_step => k_is)
    (case d_is_step => k_is)
    (case k_is_step => k_is)
    (case a_Block_new => k_is)
    (case i_Block_new => k_is)
    (case l_Block_new => k_is)
    (case d_Block_new => k_is)
    (case k_Block_new => k_is)
    (case a_Body_new => k_is)
    (case i_Body_new => k_is)
    (case l_Body_new => k_is)
    (case d_Body_new => k_is)
    (case k_Body_new => k_is)
    (case a_Body_init => k_is)
    (case i_Body_init => k_is)
    (case l_Body_init => k_is)
    (case d_Body_init => k_is)
    (case k_Body_init => k_is)
    (case a_Body_block => k_is)
    (case i_Body_block => k_is)
    (case l_Body_block => k_is)
    (case d_Body_block => k_is)
    (case k_Body_block => k_is)
    (case a_Body_has_block => k_is)
    (case i_Body_has_block => k_is)
    (case l_Body_has_block => k_is)
    (case d_Body_has_block => k_is)
    (case k_Body_has_block => k_is)
    (case a_Body_is_unended => k_is)
    (case i_Body_is_unended => k_is)
    (case l_Body_is_unended => k_is)
    (case d_Body_is_unended => k_is)
    (case k_Body_is_unended => k_is)
    (case a_Body_op => k_is)
    (case i_Body_op => k_is)
    (case l_Body_op => k_is)
    (case d_Body_op => k_is)
    (case k_Body_op => k_is)
    (case a_Body_jump => k_is)
    (case i_Body_jump => k_is)
    (case l_Body_jump => k_is)
    (case d_Body_jump => k_is)
    (case k_Body_jump => k_is)
    (case a_Body_branch => k_is)
    (case i_Body_branch => k_is)
    (case l_Body_branch => k_is)
    (case d_Body_branch => k_is)
    (case k_Body_branch => k_is)
    (case a_Body_ret => k_is)
    (case i_Body_ret => k_is)
    (case l_Body_ret => k_is)
    (case d_Body_ret => k_is)
    (case k_Body_ret => k_is)
    (case a_holds => k_is)
    (case l_holds => k_is)
    (case d_holds => k_is)
    (case k_holds => k_is)
    (case a_behind => k_is)
    (case l_behind => k_is)
    (case d_behind => k_is)
    (case k_behind => k_is)
    (case a_behind_each => k_is)
    (case l_behind_each => k_is)
    (case d_behind_each => k_is)
    (case k_behind_each => k_is)
    (case a_reached_without => k_is)
    (case l_reached_without => k_is)
    (case d_reached_without => k_is)
    (case k_reached_without => k_is)
    (case a_under => k_is)
    (case l_under => k_is)
    (case d_under => k_is)
    (case k_under => k_is)
    (case a_under_each => k_is)
    (case l_under_each => k_is)
    (case d_under_each => k_is)
    (case k_under_each => k_is)
    (case a_over => k_is)
    (case l_over => k_is)
    (case d_over => k_is)
    (case k_over => k_is)
    (case a_idom => k_is)
    (case l_idom => k_is)
    (case d_idom => k_is)
    (case k_idom => k_is)
    (case a_used_by_step => k_is)
    (case l_used_by_step => k_is)
    (case d_used_by_step => k_is)
    (case k_used_by_step => k_is)
    (case a_used_by_end => k_is)
    (case l_used_by_end => k_is)
    (case d_used_by_end => k_is)
    (case k_used_by_end => k_is)
    (case a_given_by => k_is)
    (case l_given_by => k_is)
    (case d_given_by => k_is)
    (case k_given_by => k_is)
    (case a_ahead_of_step => k_is)
    (case l_ahead_of_step => k_is)
    (case d_ahead_of_step => k_is)
    (case k_ahead_of_step => k_is)
    (case a_used_first => k_is)
    (case l_used_first => k_is)
    (case d_used_first => k_is)
    (case k_used_first => k_is)
    (case a_in_any => k_is)
    (case l_in_any => k_is)
    (case d_in_any => k_is)
    (case k_in_any => k_is)
    (case a_in_each => k_is)
    (case l_in_each => k_is)
    (case d_in_each => k_is)
    (case k_in_each => k_is)
    (case a_in_of => k_is)
    (case l_in_of => k_is)
    (case d_in_of => k_is)
    (case k_in_of => k_is)
    (case a_out => k_is)
    (case l_out => k_is)
    (case d_out => k_is)
    (case k_out => k_is)
    (case a_mark_steps => k_is)
    (case l_mark_steps => k_is)
    (case d_mark_steps => k_is)
    (case k_mark_steps => k_is)
    (case a_both_ways => k_is)
    (case l_both_ways => k_is)
    (case d_both_ways => k_is)
    (case k_both_ways => k_is)
    (case a_clash_each => k_is)
    (case l_clash_each => k_is)
    (case d_clash_each => k_is)
    (case k_clash_each => k_is)
    (case a_clash => k_is)
    (case l_clash => k_is)
    (case d_clash => k_is)
    (case k_clash => k_is)
    (case a_least_free => k_is)
    (case l_least_free => k_is)
    (case d_least_free => k_is)
    (case k_least_free => k_is)
    (case a_registers => k_is)
    (case l_registers => k_is)
    (case d_registers => k_is)
    (case k_registers => k_is)
    (case a_front_of => k_is)
    (case l_front_of => k_is)
    (case d_front_of => k_is)
    (case k_front_of => k_is)
    (case a_front => k_is)
    (case l_front => k_is)
    (case d_front => k_is)
    (case k_front => k_is)
    (case a_coming_to => k_is)
    (case l_coming_to => k_is)
    (case d_coming_to => k_is)
    (case k_coming_to => k_is)
    (case a_loop => k_is)
    (case l_loop => k_is)
    (case d_loop => k_is)
    (case k_loop => k_is)
    (case a_front_each => k_is)
    (case l_front_each => k_is)
    (case d_front_each => k_is)
    (case k_front_each => k_is)
    (case a_made_each => k_is)
    (case l_made_each => k_is)
    (case d_made_each => k_is)
    (case k_made_each => k_is)
    (case a_meet_each => k_is)
    (case l_meet_each => k_is)
    (case d_meet_each => k_is)
    (case k_meet_each => k_is)
    (case a_meet => k_is)
    (case l_meet => k_is)
    (case d_meet => k_is)
    (case k_meet => k_is)
    (case a_as_long => k_is)
    (case l_as_long => k_is)
    (case d_as_long => k_is)
    (case k_as_long => k_is)
    (case a_step_value => k_is)
    (case l_step_value => k_is)
    (case d_step_value => k_is)
    (case k_step_value => k_is)
    (case a_take_steps => k_is)
    (case l_take_steps => k_is)
    (case d_take_steps => k_is)
    (case k_take_steps => k_is)
    (case a_goal_of => k_is)
    (case l_goal_of => k_is)
    (case d_goal_of => k_is)
    (case k_goal_of => k_is)
    (case a_run => k_is)
    (case l_run => k_is)
    (case d_run => k_is)
    (case k_run => k_is)
    (case a_changed => k_is)
    (case l_changed => k_is)
    (case d_changed => k_is)
    (case k_changed => k_is)
    (case a_found => k_is)
    (case l_found => k_is)
    (case d_found => k_is)
    (case k_found => k_is)
    (case a_answer => k_is)
    (case l_answer => k_is)
    (case d_answer => k_is)
    (case k_answer => k_is)
    (case a_answers => k_is)
    (case l_answers => k_is)
    (case d_answers => k_is)
    (case k_answers => k_is)
  case S =>
    intro K H xs a hO hwi hask hx
    cases hx with
    | cons h1 h2 =>
      cases h2
      cases h1 with
      | lst hs ha =>
        have e := L2.ints_dw a.1 _ ha
        subst e
        have q : ((Codec.inLen 0 16000 a.1 && a.1.all (Codec.inInt (-9223372036854775808) 9223372036854775807)) && true) = true := hwi
        rw [Bool.and_eq_true, Bool.and_eq_true] at q
        exact ⟨_, a.1, rfl, hs, (Codec.inNat_iff.mp q.1.1).2, hask, fun H' p hp => .lst (L2.SqL.of hp) (L2.dw_ints _)⟩
end

