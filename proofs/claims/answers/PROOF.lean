import PyProof.Rows.All
import Wide.All
import OpenK.AllK
import Wide.FinOn
import PyProof.EqAt
import PyProof.EqKinds
import PyProof.TupleCall
import KE.BitLaws
import PyProof.AutoSeq1
import Open.SpecLaws
import KE.OsHead
import KE.OsGo
import PySem.Challenge.RW_haul_s01_answers
set_option Elab.async false
set_option linter.all false
set_option maxRecDepth 100000
set_option maxHeartbeats 4000000
section
namespace L2
open PySem PySem.Spec PyProof.Rows
abbrev Key := Sum Int Str
def keyIs : Key → Value → Bool
  | .inl k, v => Value.isInt k v
  | .inr x, v => Value.isStrOf x v
def keyH (w : World) : Key → Int
  | .inl k => hashInt k
  | .inr x => hashStr w x
theorem keyIs_shape : ∀ {k : Key} {v : Value}, keyIs k v = true → (∃ i t, k = Sum.inl i ∧ v = Value.int i t) ∨ (∃ x t, k = Sum.inr x ∧ v = Value.str x t)
  | .inl i, v, h => by
    obtain ⟨t, e⟩ := Value.isInt_shape (k := i) (v := v) h
    exact .inl ⟨i, t, rfl, e⟩
  | .inr x, v, h => by
    obtain ⟨t, e⟩ := Value.isStrOf_shape (x := x) (v := v) h
    exact .inr ⟨x, t, rfl, e⟩
theorem key_ll (a b : Int) : decide ((Sum.inl a : Key) = Sum.inl b) = (a == b) := by
  by_cases e : a = b
  · subst e; simp
  · have h : ¬ (Sum.inl a : Key) = Sum.inl b := fun q => e (Sum.inl.inj q)
    rw [decide_eq_false h]
    exact (beq_eq_false_iff_ne.mpr e).symm
theorem key_rr (a b : Str) : decide ((Sum.inr a : Key) = Sum.inr b) = decide (a = b) := by
  by_cases e : a = b
  · subst e; simp
  · have h : ¬ (Sum.inr a : Key) = Sum.inr b := fun q => e (Sum.inr.inj q)
    rw [decide_eq_false h, decide_eq_false e]
theorem key_lr (a : Int) (b : Str) : decide ((Sum.inl a : Key) = Sum.inr b) = false := decide_eq_false (fun q => nomatch q)
theorem key_rl (a : Str) (b : Int) : decide ((Sum.inr a : Key) = Sum.inl b) = false := decide_eq_false (fun q => nomatch q)
def mixKind (prog : Program) (w : World) : PySem.KeyKind prog w Key where
  is := keyIs
  hash := keyH w
  inj := fun v a b ha hb => by
    rcases keyIs_shape ha with ⟨i, t, rfl, rfl⟩ | ⟨x, t, rfl, rfl⟩
    · rcases keyIs_shape hb with ⟨j, u, rfl, e⟩ | ⟨y, u, rfl, e⟩
      · injection e with e1 _; rw [e1]
      · exact nomatch e
    · rcases keyIs_shape hb with ⟨j, u, rfl, e⟩ | ⟨y, u, rfl, e⟩
      · exact nomatch e
      · injection e with e1 _; rw [e1]
  byValue := fun k v h => by
    rcases keyIs_shape h with ⟨i, t, rfl, rfl⟩ | ⟨x, t, rfl, rfl⟩ <;> rfl
  pyHash := fun hv h => by
    rcases keyIs_shape hv with ⟨i, t, rfl, rfl⟩ | ⟨x, t, rfl, rfl⟩
    · exact wpAny_pyHash_int h
    · exact wpAny_pyHash_str h
  eqBool := fun hu hv h => by
    rcases keyIs_shape hu with ⟨i, t, rfl, rfl⟩ | ⟨x, t, rfl, rfl⟩
    · rcases keyIs_shape hv with ⟨j, u, rfl, rfl⟩ | ⟨y, u, rfl, rfl⟩
      · rw [key_ll] at h; exact wpAny_eqBool_int h
      · rw [key_lr] at h; exact SeqAt.EqAt.int_str i t y u _ _ _ _ h
    · rcases keyIs_shape hv with ⟨j, u, rfl, rfl⟩ | ⟨y, u, rfl, rfl⟩
      · rw [key_rl] at h; exact SeqAt.EqAt.str_int x t j u _ _ _ _ h
      · rw [key_rr] at h; exact wpAny_eqBool_str h
  «strs» := fun k x t v h => by
    rcases keyIs_shape h with ⟨i, u, rfl, e⟩ | ⟨y, u, rfl, e⟩
    · exact nomatch e
    · injection e with e1 _
      subst e1
      cases v <;> rfl
end L2
namespace L2
open PySem PySem.Spec PyProof.Rows
inductive V where
  | non | bl (b : Bool) | int (i : Int) | str (x : Str) | byt (b : Array UInt8) | flt (b : UInt64) | ref (a : Addr) | ty (n : String)
  deriving DecidableEq
def RelV : V → Value → Prop
  | .non, u => u = Value.none
  | .bl b, u => u = Value.bool b
  | .int i, u => ∃ t, u = Value.int i t
  | .str x, u => ∃ t, u = Value.str x t
  | .byt b, u => ∃ t, u = Value.bytes b t
  | .flt b, u => ∃ t, u = Value.float b t
  | .ref a, u => u = Value.ref a
  | .ty n, u => u = Value.type n
abbrev Vals : List V → List Value → Prop := Paired RelV
theorem Vals.length {xs : List V} {us : List Value} (r : Vals xs us) : xs.length = us.length := Paired.length r
theorem Vals.get : ∀ {xs : List V} {us : List Value} {i : Nat} {x : V}, Vals xs us → xs[i]? = some x → ∃ u, us[i]? = some u ∧ RelV x u
  | _, _, _, _, .nil, e => by simp at e
  | _, _, 0, _, .cons r _, e => by simp at e; subst e; exact ⟨_, rfl, r⟩
  | _, _, i + 1, x, .cons _ t, e => by
    obtain ⟨u, h1, h2⟩ := Vals.get (i := i) (x := x) t (by simpa using e)
    exact ⟨u, by simpa using h1, h2⟩
theorem Vals.set {x : V} {u : Value} (r : RelV x u) : ∀ {xs : List V} {us : List Value} (i : Nat), Vals xs us → Vals (xs.set i x) (us.set i u)
  | _, _, _, .nil => .nil
  | _, _, 0, .cons _ t => .cons r t
  | _, _, i + 1, .cons q t => .cons q (Vals.set r i t)
theorem Vals.append : ∀ {xs ys : List V} {us ws : List Value}, Vals xs us → Vals ys ws → Vals (xs ++ ys) (us ++ ws)
  | _, _, _, _, .nil, s => s
  | _, _, _, _, .cons r t, s => .cons r (Vals.append t s)
theorem Vals.take : ∀ {xs : List V} {us : List Value} (n : Nat), Vals xs us → Vals (xs.take n) (us.take n)
  | _, _, 0, _ => .nil
  | _, _, _ + 1, .nil => .nil
  | _, _, n + 1, .cons r t => .cons r (Vals.take n t)
theorem Vals.drop : ∀ {xs : List V} {us : List Value} (n : Nat), Vals xs us → Vals (xs.drop n) (us.drop n)
  | _, _, 0, r => r
  | _, _, _ + 1, .nil => .nil
  | _, _, n + 1, .cons _ t => Vals.drop n t
def RelO : Option V → Option Value → Prop
  | some v, some u => RelV v u
  | none, none => True
  | _, _ => False
def KV {κ : Type} : List (κ × V) → List (κ × Value) → Prop := Paired fun (p : κ × V) (q : κ × Value) => p.1 = q.1 ∧ RelV p.2 q.2
def kV : Key → V
  | .inl i => .int i
  | .inr x => .str x
inductive HO where
  | lst (xs : List V)
  | tup (xs : List V)
  | dK (kvs : List (Key × V)) | dT (kvs : List (List Key × V))
  | set (S : Int → Bool) (n : Nat)
  | ins (C dx : Addr) (fs : List (Str × V))
  | own (x : Addr)
  | xd (fs : List (Str × V))
  | met (f x : Addr)
  | rng (lo hi : Int)
  | frz (o : Obj) (u : HO)
  | tbl (ps : Array Value)
  | ext (φ : Heap → Prop)
abbrev Hp := Addr → Option HO
def upd (H : Hp) (a : Addr) (o : HO) : Hp := fun b => if b = a then some o else H b
theorem upd_same {H : Hp} {a : Addr} {o : HO} : upd H a o a = some o := by unfold upd; rw [if_pos rfl]
theorem upd_ne {H : Hp} {a b : Addr} {o : HO} (h : b ≠ a) : upd H a o b = H b := by unfold upd; rw [if_neg h]
theorem upd_upd {H : Hp} {a : Addr} {o u : HO} : upd (upd H a o) a u = upd H a u := by
  funext b; unfold upd; split <;> rfl
theorem ne_of {H : Hp} {a b : Addr} {o u : HO} (h : H a = some o) (h' : H b = some u) (d : o ≠ u) : a ≠ b := by
  intro e; subst e; rw [h] at h'; exact d (Option.some.inj h')
theorem ne_of_none {H : Hp} {a b : Addr} {o : HO} (h : H a = some o) (h' : H b = none) : a ≠ b := by
  intro e; subst e; rw [h] at h'; cases h'
section
variable (P : Program) (w : World)
def ObjOk (H : Hp) (h : Heap) (a : Addr) : HO → Prop
  | .lst xs => xs.length ≤ sizeLine ∧ ∃ (its : List Value) (n : Nat), Vals xs its ∧ h.get? a = some { cls := .type "list", data := .seq its.toArray n }
  | .tup xs => xs.length ≤ sizeLine ∧ ∃ its : List Value, Vals xs its ∧ IsTup h a its.toArray
  | .dK kvs => kvs.length ≤ sizeLine ∧ (a == sysModules) = false ∧ ∃ vs, KV kvs vs ∧ h.DictOf (mixKind P w) a vs
  | .dT kvs => kvs.length ≤ sizeLine ∧ (a == sysModules) = false ∧ ∃ xs : List (List Key × Addr × Value),
      Paired (fun (p : List Key × V) (q : List Key × Addr × Value) => p.1 = q.1 ∧ H q.2.1 = some (.tup (p.1.map kV)) ∧ RelV p.2 q.2.2) kvs xs ∧
      ∃ o es ep, h.get? a = some o ∧ o.ExactDict ∧ o.data = .dict es ep ∧ es.toList = xs.map (entryOfKey (tupleKind (mixKind P w))) ∧ (xs.map (·.1)).Nodup
  | .set S n => h.SetOf (intKind P w) a S n
  | .ins C dx fs => H dx = some (.own a) ∧ fs.length ≤ 1000 ∧ dx ≠ a ∧ h.get? a = some (PySem.W.instObj C dx) ∧
      ∃ mA, h.Ns1 dx mA ∧ (∀ f, RelO (fs.lookup f) (mA f)) ∧ PySem.Within mA (fs.map (·.1))
  | .own _ => ∃ o, h.get? a = some o
  | .xd fs => ∃ mA, h.Ns1 a mA ∧ ∀ f, RelO (fs.lookup f) (mA f)
  | .rng lo hi => ∃ t u v, h.get? a = some { cls := .type "range", data := .fields #[.int lo t, .int hi u, .int 1 v] }
  | .frz o u => h.get? a = some o ∧ ObjOk H h a u
  | .tbl ps => h.get? a = some { cls := .none, data := .fields ps }
  | .met f x => h.get? a = some (PySem.W.methodObj (.ref f) (.ref x))
  | .ext φ => φ h ∧ (∃ o, h.get? a = some o) ∧ ∀ h1 h2 : Heap, φ h1 → (∀ o, h1.get? a = some o → h2.get? a = some o) → φ h2
def HOk (H : Hp) (h : Heap) : Prop := ∀ a o, H a = some o → ObjOk P w H h a o
end
section
variable {P : Program} {w : World} {H H' : Hp} {h h' : Heap} {a : Addr} {o : HO}
theorem ObjOk.lt (x : ObjOk P w H h a o) : a < h.objs.size := by
  cases o with
  | lst xs => obtain ⟨_, _, _, _, e⟩ := x; exact Heap.lt_size e
  | tup xs => obtain ⟨_, _, _, p⟩ := x; exact p.lt
  | dK kvs => obtain ⟨_, _, _, _, o, _, _, e, _⟩ := x; exact Heap.lt_size e
  | dT kvs => obtain ⟨_, _, _, _, o, _, _, e, _⟩ := x; exact Heap.lt_size e
  | set S n => obtain ⟨o, _, _, _, e, _⟩ := x; exact Heap.lt_size e
  | ins C dx fs => obtain ⟨_, _, _, e, _⟩ := x; exact Heap.lt_size e
  | own y => obtain ⟨_, e⟩ := x; exact Heap.lt_size e
  | xd fs => obtain ⟨_, ⟨_, _, _, e, _⟩, _⟩ := x; exact Heap.lt_size e
  | rng lo hi => obtain ⟨_, _, _, e⟩ := x; exact Heap.lt_size e
  | frz ob u => obtain ⟨e, _⟩ := x; exact Heap.lt_size e
  | tbl ps => exact Heap.lt_size (show h.get? a = some _ from x)
  | met f y => exact Heap.lt_size (show h.get? a = some _ from x)
  | ext φ => obtain ⟨_, ⟨_, e⟩, _⟩ := x; exact Heap.lt_size e
theorem Paired.mapP {α β : Type} {F G : α → β → Prop} : ∀ {l₁ : List α} {l₂ : List β}, Paired F l₁ l₂ → (∀ a b, F a b → G a b) → Paired G l₁ l₂
  | _, _, .nil, _ => .nil
  | _, _, .cons r t, f => .cons (f _ _ r) (Paired.mapP t f)
theorem ObjOk.stay (x : ObjOk P w H h a o) (k : ∀ b u, (b = a ∨ H b = some (.own a)) → h.get? b = some u → h'.get? b = some u)
    (ho : ∀ b, H b = some (.own a) → H' b = some (.own a)) (ht : ∀ b xs, H b = some (.tup xs) → H' b = some (.tup xs)) : ObjOk P w H' h' a o := by
  induction o with
  | lst xs => obtain ⟨z, its, n, r, e⟩ := x; exact ⟨z, its, n, r, k _ _ (.inl rfl) e⟩
  | tup xs => obtain ⟨z, its, r, ob, e, c⟩ := x; exact ⟨z, its, r, ob, k _ _ (.inl rfl) e, c⟩
  | dK kvs => obtain ⟨z, y, vs, r, ob, es, ep, e, c⟩ := x; exact ⟨z, y, vs, r, ob, es, ep, k _ _ (.inl rfl) e, c⟩
  | dT kvs =>
    obtain ⟨z, y, xs, r, ob, es, ep, e, c⟩ := x
    exact ⟨z, y, xs, Paired.mapP r fun p q z => ⟨z.1, ht _ _ z.2.1, z.2.2⟩, ob, es, ep, k _ _ (.inl rfl) e, c⟩
  | set S n => obtain ⟨ob, es, ep, t, e, c⟩ := x; exact ⟨ob, es, ep, t, k _ _ (.inl rfl) e, c⟩
  | ins C dx fs =>
    obtain ⟨d, z, ne, e, mA, ⟨od, es, ep, e2, c⟩, r⟩ := x
    exact ⟨ho _ d, z, ne, k _ _ (.inl rfl) e, mA, ⟨od, es, ep, k _ _ (.inr d) e2, c⟩, r⟩
  | own y => obtain ⟨ob, e⟩ := x; exact ⟨ob, k _ _ (.inl rfl) e⟩
  | xd fs => obtain ⟨mA, ⟨od, es, ep, e, c⟩, r⟩ := x; exact ⟨mA, ⟨od, es, ep, k _ _ (.inl rfl) e, c⟩, r⟩
  | rng lo hi => obtain ⟨t, u, v, e⟩ := x; exact ⟨t, u, v, k _ _ (.inl rfl) e⟩
  | frz ob u ih => obtain ⟨e, q⟩ := x; exact ⟨k _ _ (.inl rfl) e, ih q⟩
  | tbl ps =>
    have e : h.get? a = some { cls := .none, data := .fields ps } := x
    show h'.get? a = some { cls := .none, data := .fields ps }
    exact k a _ (.inl rfl) e
  | met f y =>
    have e : h.get? a = some (PySem.W.methodObj (.ref f) (.ref y)) := x
    show h'.get? a = some (PySem.W.methodObj (.ref f) (.ref y))
    exact k a _ (.inl rfl) e
  | ext φ => obtain ⟨p, ⟨o, e⟩, st⟩ := x; exact ⟨st _ _ p fun o q => k _ _ (.inl rfl) q, ⟨o, k _ _ (.inl rfl) e⟩, st⟩
theorem HOk.lt (x : HOk P w H h) (e : H a = some o) : a < h.objs.size := (x a o e).lt
theorem HOk.fresh (x : HOk P w H h) (e : h.objs.size ≤ a) : H a = none := by
  cases q : H a with
  | none => rfl
  | some u => exact absurd (Nat.lt_of_lt_of_le (x.lt q) e) (Nat.lt_irrefl _)
theorem HOk.kept (x : HOk P w H h) (k : ∀ b u, h.get? b = some u → h'.get? b = some u) : HOk P w H h' := fun a o e =>
  (x a o e).stay (fun b u _ q => k b u q) (fun _ q => q) fun _ _ q => q
theorem HOk.laid (x : HOk P w H h) (k : ∀ b u, h.get? b = some u → h'.get? b = some u) (hp : h.objs.size ≤ a) (new : ObjOk P w (upd H a o) h' a o) : HOk P w (upd H a o) h' := fun b u e => by
  have hn := x.fresh hp
  by_cases hb : b = a
  · subst hb; rw [upd_same] at e; cases e; exact new
  · rw [upd_ne hb] at e
    exact (x b u e).stay (fun c v _ q => k c v q) (fun c q => by rw [upd_ne (ne_of_none q hn)]; exact q) fun c xs q => by rw [upd_ne (ne_of_none q hn)]; exact q
end
def Rd (H : Hp) (a : Addr) (u : HO) : Prop := H a = some u ∨ ∃ o, H a = some (.frz o u)
theorem Rd.ok {P : Program} {w : World} {H : Hp} {h : Heap} {a : Addr} {u : HO} (r : Rd H a u) (x : HOk P w H h) : ObjOk P w H h a u := by
  rcases r with r | ⟨o, r⟩
  · exact x a u r
  · obtain ⟨_, q⟩ := x a _ r
    exact q
def Mut : Option HO → Prop
  | some (.lst _) => True
  | some (.dK _) => True
  | some (.dT _) => True
  | some (.set _ _) => True
  | some (.ins _ _ _) => True
  | some (.ext _) => True
  | _ => False
section
variable {P : Program} {w : World} {H : Hp} {h h' : Heap} {x e : Addr} {o' : HO}
theorem HOk.write (ok : HOk P w H h) (mu : Mut (H x)) (he : e = x ∨ H e = some (.own x)) (k : ∀ b u, b ≠ e → h.get? b = some u → h'.get? b = some u) (heo : ∃ u, h'.get? e = some u)
    (new : ObjOk P w (upd H x o') h' x o') : HOk P w (upd H x o') h' := fun b u q => by
  have nown : ∀ c y, H c = some (.own y) → c ≠ x := fun c y r z => by subst z; rw [r] at mu; exact mu
  have ntup : ∀ c xs, H c = some (.tup xs) → c ≠ x := fun c xs r z => by subst z; rw [r] at mu; exact mu
  by_cases hb : b = x
  · subst hb; rw [upd_same] at q; cases q; exact new
  · rw [upd_ne hb] at q
    by_cases hbe : b = e
    · have q' : H b = some (.own x) := by
        rcases he with z | z
        · exact absurd (hbe.trans z) hb
        · rw [hbe]; exact z
      rw [q] at q'; cases q'
      obtain ⟨v, hv⟩ := heo
      exact ⟨v, by rw [hbe]; exact hv⟩
    · refine (ok b u q).stay (fun c v hc r => k c v ?_ r) (fun c r => by rw [upd_ne (nown c b r)]; exact r) fun c xs r => by rw [upd_ne (ntup c xs r)]; exact r
      rcases hc with rfl | hc
      · exact hbe
      · rintro rfl
        rcases he with z | z
        · exact nown c b hc z
        · rw [hc] at z; cases z; exact hb rfl
end
structure Un (fs ex : List Addr) (H H' : Hp) (h h' : Heap) : Prop where
  keep : ∀ b o, h.get? b = some o → H b = none → b ∉ fs → b ∉ ex → h'.get? b = some o
  slot : ∀ b o, h.get? b = some o → H b = none → b ∈ fs → b ∉ ex → ∃ sl, h'.get? b = some { o with slots := sl }
  free : ∀ b o, h.get? b = some o → H b = none → b ∉ ex → H' b = none
  there : ∀ b o, h.get? b = some o → b ∉ ex → ∃ o', h'.get? b = some o'
  tups : ∀ b xs, H b = some (.tup xs) → H' b = some (.tup xs)
  frzs : ∀ b o u, H b = some (.frz o u) → H' b = some (.frz o u)
  tbls : ∀ b ps, H b = some (.tbl ps) → ∃ more, H' b = some (.tbl (ps ++ more))
section
variable {fs fs' ex ex' : List Addr} {H H1 H2 : Hp} {h h1 h2 h' : Heap} {a x e : Addr} {o : HO}
theorem Un.any (u : Un fs ex H H1 h h1) {b : Addr} {ob : Obj} (q : h.get? b = some ob) (n : H b = none) (hx : b ∉ ex) : ∃ sl, h1.get? b = some { ob with slots := sl } := by
  by_cases hb : b ∈ fs
  · exact u.slot b ob q n hb hx
  · exact ⟨ob.slots, u.keep b ob q n hb hx⟩
theorem Un.kept (k : ∀ b u, h.get? b = some u → h'.get? b = some u) : Un fs ex H H h h' :=
  ⟨fun b ob q _ _ _ => k b ob q, fun b ob q _ _ _ => ⟨ob.slots, k b ob q⟩, fun _ _ _ n _ => n, fun b ob q _ => ⟨ob, k b ob q⟩, fun _ _ q => q, fun _ _ _ q => q, fun _ ps q => ⟨#[], by rw [q]; simp⟩⟩
theorem Un.refl : Un fs ex H H h h := Un.kept fun _ _ q => q
theorem Un.laid (k : ∀ b u, h.get? b = some u → h'.get? b = some u) (hp : h.objs.size ≤ a) (hn : H a = none) : Un fs ex H (upd H a o) h h' where
  keep := fun b u q _ _ _ => k b u q
  slot := fun b u q _ _ _ => ⟨u.slots, k b u q⟩
  free := fun b u q n _ => by rw [upd_ne (Nat.ne_of_lt (Nat.lt_of_lt_of_le (Heap.lt_size q) hp))]; exact n
  there := fun b u q _ => ⟨u, k b u q⟩
  tups := fun b xs q => by rw [upd_ne (ne_of_none q hn)]; exact q
  frzs := fun b u xs q => by rw [upd_ne (ne_of_none q hn)]; exact q
  tbls := fun b ps q => ⟨#[], by rw [upd_ne (ne_of_none q hn), q]; simp⟩
theorem Un.write (mu : Mut (H x)) (he : e = x ∨ H e = some (.own x)) (k : ∀ b u, b ≠ e → h.get? b = some u → h'.get? b = some u) (heo : ∃ u, h'.get? e = some u) : Un fs ex H (upd H x o) h h' := by
  have hx : ∀ b, H b = none → b ≠ x := fun b n z => by subst z; rw [n] at mu; exact mu
  have hb : ∀ b, H b = none → b ≠ e := fun b n z => by
    subst z
    rcases he with r | r
    · exact hx b n r
    · rw [n] at r; cases r
  have hm : ∀ b u, H b = some u → ¬ Mut (some u) → b ≠ x := fun b u q nm z => by subst z; rw [q] at mu; exact nm mu
  refine ⟨fun b u q n _ _ => k b u (hb b n) q, fun b u q n _ _ => ⟨u.slots, k b u (hb b n) q⟩, fun b u q n _ => by rw [upd_ne (hx b n)]; exact n, fun b u q _ => ?_,
    fun b xs q => by rw [upd_ne (hm b _ q fun z => z)]; exact q, fun b u xs q => by rw [upd_ne (hm b _ q fun z => z)]; exact q, fun b ps q => ⟨#[], by rw [upd_ne (hm b _ q fun z => z), q]; simp⟩⟩
  by_cases hbe : b = e
  · subst hbe; exact heo
  · exact ⟨u, k b u hbe q⟩
end
def trk (h : Heap) (H : Hp) : List Addr := (List.range h.objs.size).filter fun a => (H a).isSome
def hidT (h : Heap) (H : Hp) : Heap := PySem.W.hideAll h (trk h H)
theorem hidT_size (h : Heap) (H : Hp) : (hidT h H).objs.size = h.objs.size := PySem.W.hideAll_size _ _
theorem hidT_get {h : Heap} {H : Hp} {b : Addr} {o : Obj} (e : h.get? b = some o) (n : H b = none) : (hidT h H).get? b = some o :=
  PySem.W.hideAll_get _ e fun hm => by
    have q : (H b).isSome = true := (List.mem_filter.mp hm).2
    rw [n] at q; simp at q
theorem of_hidT {h : Heap} {H : Hp} {b : Addr} {o : Obj} (e : (hidT h H).get? b = some o) : h.get? b = some o ∧ H b = none := by
  have e' : h.get? b = some o := PySem.W.of_hideAll (trk h H) e
  refine ⟨e', ?_⟩
  cases q : H b with
  | none => rfl
  | some x =>
    have hm : b ∈ trk h H := List.mem_filter.mpr ⟨List.mem_range.mpr (Heap.lt_size e'), by simp [q]⟩
    have z : (hidT h H).get? b = none := PySem.W.hideAll_none (trk h H) hm
    rw [z] at e; cases e
end L2
namespace L2
open PySem PySem.Spec PyProof.Rows
structure Mod (K : PySem.W.Frag) (mg : Str → Option Value) (base : Heap) : Prop where
  kin : K.In base
  glob : base.Ns mainGlobals mg
  blt : ∃ mb, base.Ns builtinsNs mb ∧ ∀ x : Str, x ≠ "__name__" → mb x = bootBuiltins x
  nolimit : base.NoLimit
structure Cx where
  prog : Program
  w : World
  K : PySem.W.Frag
  mg : Str → Option Value
  base : Heap
  A : Around
  N : List Str
  s_0 : Shared
  H_0 : Hp
  env : Env
  outer : List Env
  stack : List Env
  ex : List Addr
  fn : Str → Bool
  calm : Bool
  pn : List (Addr × Obj)
  xe : Value → Shared → Prop
def frs (l : List Env) : List Addr := l.filterMap (·.frame)
abbrev Cx.fs (X : Cx) : List Addr := frs X.outer
def Vis (sc : Scope) (x : Str) : Prop := sc.names.lookup x = some .local ∨ sc.names.lookup x = some .cell ∨ sc.names.lookup x = some .free
def Loc (sc : Scope) (x : Str) : Prop := sc.names.lookup x = some .local ∨ sc.names.lookup x = some .cell
def Look (env : Env) (h : Heap) (m : Str → Option Value) (x : Str) (u : Value) : Prop :=
  (env.kindOf x = some .local ∧ m x = some u) ∨ ((env.kindOf x = some .cell ∨ env.kindOf x = some .free) ∧ ∃ c, env.cells.lookup x = some c ∧ h.IsCell c (some u))
structure Cx.Ok (X : Cx) : Prop where
  mod : Mod X.K X.mg X.base
  kind : X.env.scope.kind = .function
  glob : X.env.globals = mainGlobals
  blt : X.env.builtins = builtinsNs
  above : X.s_0.heap.objs.size ≤ X.env.locals
  inj : ∀ x y c, X.env.cells.lookup x = some c → X.env.cells.lookup y = some c → x = y
  has : ∀ x, (X.env.kindOf x = some .cell ∨ X.env.kindOf x = some .free) → ∃ c, X.env.cells.lookup x = some c
  cab : ∀ x c, X.fn x = true → X.env.cells.lookup x = some c → X.s_0.heap.objs.size ≤ c
  hd : X.calm = true → X.A.handled = none
  frames : X.A.frames = some X.stack
  stk : X.stack = X.outer ∨ (X.stack = X.env :: X.outer ∧ X.env.frame = some X.env.locals)
  exf : ∀ b ∈ X.ex, b ≠ X.env.locals ∧ ∀ x c, X.env.cells.lookup x = some c → c ≠ b
  bs : ∀ b o, X.base.get? b = some o → X.s_0.heap.get? b = some o ∧ X.H_0 b = none
  bsz : X.base.objs.size ≤ X.s_0.heap.objs.size
  noex : ∀ b o, X.base.get? b = some o → b ∉ X.ex
  exfs : ∀ b ∈ X.ex, b ∉ X.fs
  funs : X.s_0.heap.FunFrames X.base X.outer
  frf : ∀ b ∈ X.fs, X.H_0 b = none
structure Inv (X : Cx) (pins : List (Addr × Obj)) (σ : List (Option V)) (H : Hp) (s : Shared) : Prop where
  ok : X.Ok
  os : s.os = X.s_0.os
  bare : AllBare s.gens
  base : Un X.fs X.ex X.H_0 H X.s_0.heap s.heap
  loc : ∃ m, s.heap.Ns X.env.locals m ∧ ∀ (i : Nat) (x : Str) (v : V), X.N[i]? = some x → σ[i]? = some (some v) → Vis X.env.scope x → ∃ u, RelV v u ∧ Look X.env s.heap m x u
  cell : ∀ x c, X.env.cells.lookup x = some c → ∃ v, s.heap.IsCell c v
  free : H X.env.locals = none
  freeC : ∀ x c, X.env.cells.lookup x = some c → H c = none
  pin : ∀ p ∈ X.pn ++ pins, s.heap.get? p.1 = some p.2 ∧ H p.1 = none ∧ p.1 ≠ X.env.locals ∧ p.1 ∉ X.fs ∧ ∀ v, p.2.data ≠ .cell v
  hok : HOk X.prog X.w H s.heap
  len : σ.length = X.N.length
section
variable {X : Cx} {pins : List (Addr × Obj)} {σ : List (Option V)} {H H' : Hp} {s : Shared} {h' : Heap}
theorem Cx.Ok.nofr (ok : X.Ok) {b : Addr} {o : Obj} (e : X.base.get? b = some o) : b ∉ X.fs := fun hb => by
  have := (ok.funs.mem hb).1
  rw [e] at this; cases this
theorem Inv.bs (I : Inv X pins σ H s) : ∀ b o, X.base.get? b = some o → s.heap.get? b = some o ∧ H b = none := fun b o e =>
  ⟨I.base.keep b o (I.ok.bs b o e).1 (I.ok.bs b o e).2 (I.ok.nofr e) (I.ok.noex b o e), I.base.free b o (I.ok.bs b o e).1 (I.ok.bs b o e).2 (I.ok.noex b o e)⟩
theorem Inv.bk (I : Inv X pins σ H s) : ∀ b o, X.base.get? b = some o → s.heap.get? b = some o := fun b o e => (I.bs b o e).1
theorem Inv.mod (I : Inv X pins σ H s) : Mod X.K X.mg X.base := I.ok.mod
theorem Inv.kIn (I : Inv X pins σ H s) : X.K.In s.heap := I.ok.mod.kin.keeps I.bk
theorem Inv.lt (I : Inv X pins σ H s) : X.env.locals < s.heap.objs.size := let ⟨_, hn, _⟩ := I.loc; hn.lt
theorem Inv.sz (I : Inv X pins σ H s) : X.s_0.heap.objs.size ≤ s.heap.objs.size := Nat.le_trans I.ok.above (Nat.le_of_lt I.lt)
theorem Inv.nofs (I : Inv X pins σ H s) {a : Addr} (h : s.heap.objs.size ≤ a) : a ∉ X.fs := fun hb => by
  obtain ⟨_, o, ho, _⟩ := I.ok.funs.mem hb
  exact absurd (Nat.lt_of_lt_of_le (Heap.lt_size ho) (Nat.le_trans I.sz h)) (Nat.lt_irrefl _)
theorem Inv.cne (I : Inv X pins σ H s) : ∀ x c, X.env.cells.lookup x = some c → c ≠ X.env.locals := fun x c e z => by
  obtain ⟨v, o, ho, hd⟩ := I.cell x c e
  obtain ⟨m, ⟨o', es, ep, ho', hd', _⟩, _⟩ := I.loc
  rw [z, ho'] at ho; cases ho; rw [hd'] at hd; cases hd
theorem Inv.funs (I : Inv X pins σ H s) : s.heap.FunFrames X.base X.outer := by
  have all : ∀ (l : List Env), (∀ b ∈ frs l, b ∈ X.fs) → X.s_0.heap.FunFrames X.base l → s.heap.FunFrames X.base l := by
    intro l
    induction l with
    | nil => intro _ _; trivial
    | cons env r ih =>
      intro hs hl
      obtain ⟨hk, ⟨L, o, hf, hn, ho, hd⟩, hr⟩ := hl
      have hL : L ∈ X.fs := hs L (by unfold frs; rw [List.filterMap_cons, hf]; exact List.mem_cons_self)
      obtain ⟨sl, e⟩ := I.base.slot L o ho (I.ok.frf L hL) hL fun z => I.ok.exfs L z hL
      exact ⟨hk, ⟨L, _, hf, hn, e, hd⟩, ih (fun b hb => hs b (by unfold frs; rw [List.filterMap_cons, hf]; exact List.mem_cons_of_mem _ hb)) hr⟩
  exact all X.outer (fun _ hb => hb) I.ok.funs
theorem Inv.stack (I : Inv X pins σ H s) : s.heap.FunFrames X.base X.stack := by
  rcases I.ok.stk with e | ⟨e, hf⟩
  · rw [e]; exact I.funs
  · rw [e]
    obtain ⟨m, hn, _⟩ := I.loc
    refine .cons (by rw [I.ok.kind]; decide) hf hn ?_ I.funs
    exact Heap.get?_none_of_le (Nat.le_trans I.ok.bsz I.ok.above)
theorem Inv.stkSub (I : Inv X pins σ H s) : ∀ b ∈ frs X.stack, b ∈ X.env.locals :: X.fs := fun b hb => by
  rcases I.ok.stk with e | ⟨e, hf⟩
  · rw [e] at hb; exact List.mem_cons_of_mem _ hb
  · rw [e] at hb
    unfold frs at hb
    rw [List.filterMap_cons, hf] at hb
    exact hb
theorem Inv.stkFree (I : Inv X pins σ H s) : ∀ b ∈ frs X.stack, H b = none := fun b hb => by
  rcases List.mem_cons.mp (I.stkSub b hb) with e | hb
  · rw [e]; exact I.free
  · obtain ⟨_, o, ho, _⟩ := I.ok.funs.mem hb
    exact I.base.free b o ho (I.ok.frf b hb) fun z => I.ok.exfs b z hb
theorem Inv.step {g' : Array GenState} {t' : Nat} {d' : Drawn} {ch : List Addr} (I : Inv X pins σ H s)
    (hch : ∀ b ∈ ch, (b ∈ X.ex ∨ X.s_0.heap.objs.size ≤ b) ∧ b ≠ X.env.locals ∧ (∀ x c, X.env.cells.lookup x = some c → c ≠ b) ∧ ∀ p ∈ X.pn ++ pins, p.1 ≠ b)
    (keep : ∀ b o, b ≠ X.env.locals → b ∉ X.fs → b ∉ ch → s.heap.get? b = some o → H b = none → h'.get? b = some o)
    (slot : ∀ b o, b ≠ X.env.locals → b ∈ X.fs → b ∉ ch → s.heap.get? b = some o → H b = none → ∃ sl, h'.get? b = some { o with slots := sl }) (free : ∀ b o, b ∉ ch → s.heap.get? b = some o → H b = none → H' b = none)
    (there : ∀ b o, b ∉ ch → s.heap.get? b = some o → ∃ o', h'.get? b = some o')
    (tups : ∀ b xs, H b = some (.tup xs) → H' b = some (.tup xs)) (frzs : ∀ b o u, H b = some (.frz o u) → H' b = some (.frz o u)) (tbls : ∀ b ps, H b = some (.tbl ps) → ∃ more, H' b = some (.tbl (ps ++ more)))
    (ns : ∀ m, s.heap.Ns X.env.locals m → h'.Ns X.env.locals m) (hok : HOk X.prog X.w H' h') (hg : AllBare g') :
    Inv X pins σ H' { s with heap := h', gens := g', drawn := d', toks := t' } := by
  have neL : ∀ b o, X.s_0.heap.get? b = some o → b ≠ X.env.locals := fun b o e => Nat.ne_of_lt (Nat.lt_of_lt_of_le (Heap.lt_size e) I.ok.above)
  have neC : ∀ b o, X.s_0.heap.get? b = some o → b ∉ X.ex → b ∉ ch := fun b o e hx hb => by
    rcases (hch b hb).1 with z | z
    · exact hx z
    · exact absurd (Nat.lt_of_lt_of_le (Heap.lt_size e) z) (Nat.lt_irrefl _)
  have cellK : ∀ x c, X.env.cells.lookup x = some c → ∀ v, s.heap.IsCell c v → h'.IsCell c v := fun x c e v ⟨o, ho, hd⟩ => by
    have nch : c ∉ ch := fun z => (hch c z).2.2.1 x c e rfl
    by_cases hc : c ∈ X.fs
    · obtain ⟨sl, q⟩ := slot c o (I.cne x c e) hc nch ho (I.freeC x c e)
      exact ⟨_, q, hd⟩
    · exact ⟨o, keep c o (I.cne x c e) hc nch ho (I.freeC x c e), hd⟩
  refine ⟨I.ok, I.os, hg, ⟨fun b o e n hb hx => ?_, fun b o e n hb hx => ?_, fun b o e n hx => ?_, fun b o e hx => ?_, fun b xs e => tups b xs (I.base.tups b xs e), fun b o xs e => frzs b o xs (I.base.frzs b o xs e), fun b ps e => ?_⟩, ?_, fun x c e => ?_, ?_, fun x c e => ?_, fun p hp => ?_, hok, I.len⟩
  · exact keep b o (neL b o e) hb (neC b o e hx) (I.base.keep b o e n hb hx) (I.base.free b o e n hx)
  · obtain ⟨sl, e1⟩ := I.base.slot b o e n hb hx
    obtain ⟨sl', e2⟩ := slot b _ (neL b o e) hb (neC b o e hx) e1 (I.base.free b o e n hx)
    exact ⟨sl', e2⟩
  · obtain ⟨o', e1⟩ := I.base.there b o e hx
    exact free b o' (neC b o e hx) e1 (I.base.free b o e n hx)
  · obtain ⟨o', e1⟩ := I.base.there b o e hx
    exact there b o' (neC b o e hx) e1
  · obtain ⟨m1, e1⟩ := I.base.tbls b ps e
    obtain ⟨m2, e2⟩ := tbls b _ e1
    exact ⟨m1 ++ m2, by rw [e2, Array.append_assoc]⟩
  · obtain ⟨m, hn, hl⟩ := I.loc
    refine ⟨m, ns m hn, fun i x v e1 e2 e3 => ?_⟩
    obtain ⟨u, r, l⟩ := hl i x v e1 e2 e3
    refine ⟨u, r, ?_⟩
    rcases l with l | ⟨k, c, e, z⟩
    · exact .inl l
    · exact .inr ⟨k, c, e, cellK x c e _ z⟩
  · obtain ⟨v, z⟩ := I.cell x c e
    exact ⟨v, cellK x c e v z⟩
  · obtain ⟨m, ⟨o, _, _, ho, _⟩, _⟩ := I.loc
    exact free _ o (fun z => (hch _ z).2.1 rfl) ho I.free
  · obtain ⟨v, o, ho, hd⟩ := I.cell x c e
    exact free c o (fun z => (hch c z).2.2.1 x c e rfl) ho (I.freeC x c e)
  · obtain ⟨e, n, ne, nf, d⟩ := I.pin p hp
    have nch : p.1 ∉ ch := fun z => (hch p.1 z).2.2.2 p hp rfl
    exact ⟨keep p.1 p.2 ne nf nch e n, free p.1 p.2 nch e n, ne, nf, d⟩
theorem Inv.un {t' : Nat} (I : Inv X pins σ H s) (u : Un X.fs [] H H' s.heap h') (hok : HOk X.prog X.w H' h') : Inv X pins σ H' { s with heap := h', toks := t' } := by
  obtain ⟨m, ⟨o, es, ep, ho, r⟩, _⟩ := id I.loc
  obtain ⟨sl, hL⟩ := u.any ho I.free (by simp)
  exact I.step (g' := s.gens) (d' := s.drawn) (ch := []) (fun _ z => nomatch z) (fun b o _ hb _ e n => u.keep b o e n hb (by simp)) (fun b o _ hb _ e n => u.slot b o e n hb (by simp)) (fun b o _ e n => u.free b o e n (by simp)) (fun b o _ e => u.there b o e (by simp)) u.tups u.frzs u.tbls (fun m' hm => by
    obtain ⟨o', es', ep', ho', r'⟩ := hm
    rw [ho] at ho'; cases ho'
    exact ⟨_, es', ep', hL, r'⟩) hok I.bare
theorem Inv.call {g' : Array GenState} {t' : Nat} {d' : Drawn} {ch : List Addr} (I : Inv X pins σ H s) (u : Un (frs X.stack) ch H H' s.heap h') (hok : HOk X.prog X.w H' h') (hg : AllBare g')
    (hch : ∀ b ∈ ch, (b ∈ X.ex ∨ X.s_0.heap.objs.size ≤ b) ∧ b ≠ X.env.locals ∧ (∀ x c, X.env.cells.lookup x = some c → c ≠ b) ∧ ∀ p ∈ X.pn ++ pins, p.1 ≠ b) :
    Inv X pins σ H' { s with heap := h', gens := g', drawn := d', toks := t' } := by
  obtain ⟨m, ⟨o, es, ep, ho, r⟩, _⟩ := id I.loc
  obtain ⟨sl, hL⟩ := u.any ho I.free fun z => (hch _ z).2.1 rfl
  exact I.step (ch := ch) hch (fun b o hL hb hc e n => u.keep b o e n (fun z => (List.mem_cons.mp (I.stkSub b z)).elim hL hb) hc) (fun b o _ _ hc e n => u.any e n hc) (fun b o hc e n => u.free b o e n hc) (fun b o hc e => u.there b o e hc) u.tups u.frzs u.tbls (fun m' hm => by
    obtain ⟨o', es', ep', ho', r'⟩ := hm
    rw [ho] at ho'; cases ho'
    exact ⟨_, es', ep', hL, r'⟩) hok hg
theorem Inv.turned {t' : Nat} {it : Addr} (I : Inv X pins σ H s) (k : ∀ b o, b ≠ it → s.heap.get? b = some o → h'.get? b = some o) (hn : H it = none) (hL : it ≠ X.env.locals)
    (h1 : it ∈ X.ex ∨ X.s_0.heap.objs.size ≤ it) (h2 : ∀ x c, X.env.cells.lookup x = some c → c ≠ it) (h3 : ∀ p ∈ X.pn ++ pins, p.1 ≠ it) : Inv X pins σ H { s with heap := h', toks := t' } := by
  have nit : ∀ b u, H b = some u → b ≠ it := fun b u e z => by rw [z, hn] at e; cases e
  refine I.step (g' := s.gens) (d' := s.drawn) (ch := [it]) (fun b hb => ?_) (fun b o _ _ hc e _ => k b o (fun z => hc (by simp [z])) e) (fun b o _ _ hc e _ => ⟨o.slots, k b o (fun z => hc (by simp [z])) e⟩) (fun _ _ _ _ n => n)
    (fun b o hc e => ⟨o, k b o (fun z => hc (by simp [z])) e⟩) (fun _ _ e => e) (fun _ _ _ e => e) (fun b ps e => ⟨#[], by rw [e]; simp⟩) (fun m hm => ?_) (fun b u e => ?_) I.bare
  · have e : b = it := by simpa using hb
    subst e
    exact ⟨h1, hL, h2, h3⟩
  · obtain ⟨o, es, ep, ho, r⟩ := hm
    exact ⟨o, es, ep, k _ o (Ne.symm hL) ho, r⟩
  · refine (I.hok b u e).stay (fun c v hc q => k c v ?_ q) (fun _ q => q) fun _ _ q => q
    rcases hc with z | z
    · rw [z]; exact nit b u e
    · exact nit c _ z
theorem Inv.tok (I : Inv X pins σ H s) (t : Nat) : Inv X pins σ H { s with toks := t } := I.un (h' := s.heap) (t' := t) Un.refl I.hok
theorem Inv.kept {t' : Nat} (I : Inv X pins σ H s) (k : ∀ b u, s.heap.get? b = some u → h'.get? b = some u) : Inv X pins σ H { s with heap := h', toks := t' } := I.un (Un.kept k) (I.hok.kept k)
theorem Inv.laid {a : Addr} {o : HO} {t' : Nat} (I : Inv X pins σ H s) (k : ∀ b u, s.heap.get? b = some u → h'.get? b = some u) (hp : s.heap.objs.size ≤ a) (new : ObjOk X.prog X.w (upd H a o) h' a o) :
    Inv X pins σ (upd H a o) { s with heap := h', toks := t' } := I.un (Un.laid k hp (I.hok.fresh hp)) (I.hok.laid k hp new)
theorem Inv.write {x e : Addr} {o : HO} {t' : Nat} (I : Inv X pins σ H s) (mu : Mut (H x)) (he : e = x ∨ H e = some (.own x)) (k : ∀ b u, b ≠ e → s.heap.get? b = some u → h'.get? b = some u) (heo : ∃ u, h'.get? e = some u)
    (new : ObjOk X.prog X.w (upd H x o) h' x o) : Inv X pins σ (upd H x o) { s with heap := h', toks := t' } := I.un (Un.write mu he k heo) (I.hok.write mu he k heo new)
theorem Inv.weak {σ' : List (Option V)} (I : Inv X pins σ H s) (hl : σ'.length = σ.length) (w : ∀ (i : Nat) v, σ'[i]? = some (some v) → σ[i]? = some (some v)) : Inv X pins σ' H s :=
  ⟨I.ok, I.os, I.bare, I.base, let ⟨m, hn, hl'⟩ := I.loc; ⟨m, hn, fun i x v e1 e2 e3 => hl' i x v e1 (w i v e2) e3⟩, I.cell, I.free, I.freeC, I.pin, I.hok, hl.trans I.len⟩
theorem Inv.pins_of {pins' : List (Addr × Obj)} (I : Inv X pins σ H s) (h : ∀ p ∈ pins', s.heap.get? p.1 = some p.2 ∧ H p.1 = none ∧ p.1 ≠ X.env.locals ∧ p.1 ∉ X.fs ∧ ∀ v, p.2.data ≠ .cell v) : Inv X pins' σ H s :=
  ⟨I.ok, I.os, I.bare, I.base, I.loc, I.cell, I.free, I.freeC, fun p hp => (List.mem_append.mp hp).elim (fun z => I.pin p (List.mem_append_left _ z)) (h p), I.hok, I.len⟩
theorem nodup_ix {N : List Str} (hN : N.Nodup) {i j : Nat} {x : Str} (a : N[i]? = some x) (b : N[j]? = some x) : i = j := by
  obtain ⟨h1, e1⟩ := List.getElem?_eq_some_iff.mp a
  obtain ⟨h2, e2⟩ := List.getElem?_eq_some_iff.mp b
  exact (List.getElem_inj hN).mp (e1.trans e2.symm)
theorem store_ok2 {M : Model} {A : Around} {E : Value → Shared → Prop} {i : Nat} {x : Str} {v : V} {u : Value} {Q : Unit → Shared → Prop} (I : Inv X pins σ H s) (hN : X.N.Nodup) (hi : X.N[i]? = some x) (hx : Loc X.env.scope x) (r : RelV v u)
    (h : ∀ s', Inv X pins (σ.set i (some v)) H s' → (∃ a, Heap.SameBut a s.heap s'.heap ∧ (a = X.env.locals ∨ X.env.cells.lookup x = some a)) → Q () s') (hf : X.fn x = true ∨ X.env.scope.names.lookup x = some .local := by first | exact .inl rfl | exact .inr rfl | assumption) : wpAny M A (storeName X.env x u) Q E s := by
  obtain ⟨m, hn, hl⟩ := id I.loc
  have hcls : (X.env.scope.kind == .class || (X.env.scope.kind == .module && X.env.locals != X.env.globals)) = false := by rw [I.ok.kind]; rfl
  have hiσ : i < σ.length := by rw [I.len]; exact (List.getElem?_eq_some_iff.mp hi).1
  have cne := I.cne
  have tracked : ∀ {a : Addr} {h' : Heap}, (∃ o, s.heap.get? a = some o ∧ H a = none) → Heap.SameBut a s.heap h' → HOk X.prog X.w H h' := fun {a h'} ha hs b ob e => by
    obtain ⟨_, _, hfree⟩ := ha
    refine (I.hok b ob e).stay (fun c w' hc q => (hs.2 c ?_).trans q) (fun _ q => q) fun _ _ q => q
    rintro rfl
    rcases hc with rfl | hc
    · rw [hfree] at e; cases e
    · rw [hfree] at hc; cases hc
  rcases hx with hk | hk
  · refine wpAny_storeName_local hk hn (fun h' hn' hs => ?_) hcls
    obtain ⟨oL, _, _, hoL, _⟩ := id hn
    refine h _ ⟨I.ok, I.os, I.bare, ⟨fun b o e n hb hx => ?_, fun b o e n hb hx => ?_, I.base.free, fun b o e hx => ?_, I.base.tups, I.base.frzs, I.base.tbls⟩, ⟨_, hn', fun j y v' e1 e2 e3 => ?_⟩, fun y c e => ?_, I.free, I.freeC, fun p hp => ?_, tracked ⟨oL, hoL, I.free⟩ hs, by simpa using I.len⟩ ⟨_, hs, .inl rfl⟩
    · exact (hs.2 b (Nat.ne_of_lt (Nat.lt_of_lt_of_le (Heap.lt_size e) I.ok.above))).trans (I.base.keep b o e n hb hx)
    · obtain ⟨sl, e1⟩ := I.base.slot b o e n hb hx
      exact ⟨sl, (hs.2 b (Nat.ne_of_lt (Nat.lt_of_lt_of_le (Heap.lt_size e) I.ok.above))).trans e1⟩
    · obtain ⟨o', e1⟩ := I.base.there b o e hx
      exact ⟨o', (hs.2 b (Nat.ne_of_lt (Nat.lt_of_lt_of_le (Heap.lt_size e) I.ok.above))).trans e1⟩
    · by_cases hj : j = i
      · subst hj
        rw [hi] at e1; cases e1
        rw [List.getElem?_set_self hiσ] at e2
        cases e2
        exact ⟨u, r, .inl ⟨hk, by simp⟩⟩
      · rw [List.getElem?_set_ne (Ne.symm hj)] at e2
        obtain ⟨u', r', q⟩ := hl j y v' e1 e2 e3
        refine ⟨u', r', ?_⟩
        rcases q with ⟨k, e⟩ | ⟨k, c, e, z⟩
        · refine .inl ⟨k, ?_⟩
          have : y ≠ x := fun e => hj (nodup_ix hN e1 (e ▸ hi))
          simp [this, e]
        · exact .inr ⟨k, c, e, z.sameBut hs (cne y c e)⟩
    · obtain ⟨w', z⟩ := I.cell y c e
      exact ⟨w', z.sameBut hs (cne y c e)⟩
    · obtain ⟨e, n, ne, nf, d⟩ := I.pin p hp
      exact ⟨(hs.2 p.1 ne).trans e, n, ne, nf, d⟩
  · have hfn : X.fn x = true := by
      rcases hf with z | z
      · exact z
      · rw [z] at hk; cases hk
    obtain ⟨c, hc⟩ := I.ok.has x (.inl hk)
    obtain ⟨w', z⟩ := I.cell x c hc
    refine wpAny_storeName_cell I.ok.kind hk hc z (fun h' hc' hs => ?_)
    obtain ⟨oc, hoc, hocd⟩ := id z
    refine h { s with heap := h' } ⟨I.ok, I.os, I.bare, ⟨fun b o e n hb hx => ?_, fun b o e n hb hx => ?_, I.base.free, fun b o e hx => ?_, I.base.tups, I.base.frzs, I.base.tbls⟩, ⟨m, hn.sameBut hs (Ne.symm (cne x c hc)), fun j y v' e1 e2 e3 => ?_⟩, fun y c' e => ?_, I.free, I.freeC, fun p hp => ?_, tracked ⟨oc, hoc, I.freeC x c hc⟩ hs, by simpa using I.len⟩ ⟨c, hs, .inr hc⟩
    · exact (hs.2 b (Nat.ne_of_lt (Nat.lt_of_lt_of_le (Heap.lt_size e) (I.ok.cab x c hfn hc)))).trans (I.base.keep b o e n hb hx)
    · obtain ⟨sl, e1⟩ := I.base.slot b o e n hb hx
      exact ⟨sl, (hs.2 b (Nat.ne_of_lt (Nat.lt_of_lt_of_le (Heap.lt_size e) (I.ok.cab x c hfn hc)))).trans e1⟩
    · obtain ⟨o', e1⟩ := I.base.there b o e hx
      exact ⟨o', (hs.2 b (Nat.ne_of_lt (Nat.lt_of_lt_of_le (Heap.lt_size e) (I.ok.cab x c hfn hc)))).trans e1⟩
    · by_cases hj : j = i
      · subst hj
        rw [hi] at e1; cases e1
        rw [List.getElem?_set_self hiσ] at e2
        cases e2
        exact ⟨u, r, .inr ⟨.inl hk, c, hc, hc'⟩⟩
      · rw [List.getElem?_set_ne (Ne.symm hj)] at e2
        obtain ⟨u', r', q⟩ := hl j y v' e1 e2 e3
        refine ⟨u', r', ?_⟩
        rcases q with q | ⟨k, c', e, z'⟩
        · exact .inl q
        · refine .inr ⟨k, c', e, z'.sameBut hs ?_⟩
          rintro rfl
          exact hj (nodup_ix hN e1 (I.ok.inj _ _ _ e hc ▸ hi))
    · by_cases hcc : c' = c
      · subst hcc; exact ⟨_, hc'⟩
      · obtain ⟨w2, z2⟩ := I.cell y c' e
        exact ⟨w2, z2.sameBut hs hcc⟩
    · obtain ⟨e, n, ne, nf, d⟩ := I.pin p hp
      refine ⟨(hs.2 p.1 ?_).trans e, n, ne, nf, d⟩
      intro q
      rw [q, hoc] at e
      have q' : oc = p.2 := Option.some.inj e
      exact d w' (by rw [← q']; exact hocd)
theorem store_ok {M : Model} {A : Around} {E : Value → Shared → Prop} {i : Nat} {x : Str} {v : V} {u : Value} {Q : Unit → Shared → Prop} (I : Inv X pins σ H s) (hN : X.N.Nodup) (hi : X.N[i]? = some x) (hx : Loc X.env.scope x) (r : RelV v u)
    (h : ∀ s', Inv X pins (σ.set i (some v)) H s' → Q () s') (hf : X.fn x = true ∨ X.env.scope.names.lookup x = some .local := by first | exact .inl rfl | exact .inr rfl | assumption) : wpAny M A (storeName X.env x u) Q E s :=
  store_ok2 I hN hi hx r (fun s' I' _ => h s' I') hf
theorem Inv.call' {s' : Shared} {ch : List Addr} (I : Inv X pins σ H s) (ho : s'.os = s.os) (u : Un (frs X.stack) ch H H' s.heap s'.heap) (hok : HOk X.prog X.w H' s'.heap) (hg : AllBare s'.gens)
    (hch : ∀ b ∈ ch, (b ∈ X.ex ∨ X.s_0.heap.objs.size ≤ b) ∧ b ≠ X.env.locals ∧ (∀ x c, X.env.cells.lookup x = some c → c ≠ b) ∧ ∀ p ∈ X.pn ++ pins, p.1 ≠ b) : Inv X pins σ H' s' := by
  obtain ⟨h', g', d', t', o'⟩ := s'
  have e : o' = s.os := ho
  subst e
  exact I.call (g' := g') (t' := t') (d' := d') u hok hg hch
end
abbrev XK := Value → Option Addr → Hp → Prop
abbrev St := List (Option V)
abbrev VK := V → Hp → Prop
abbrev TE := St → Hp → VK → Prop
abbrev TT := St → Hp → (Bool → Hp → Prop) → Prop
abbrev TA := St → Hp → (List V → Hp → Prop) → Prop
structure Ends where
  nx : St → Hp → Prop
  rt : VK
  bk : St → Hp → Prop := fun _ _ => False
  ct : St → Hp → Prop := fun _ _ => False
abbrev TS := Ends → St → Hp → Prop
def EP (X : Cx) (pins : List (Addr × Obj)) (σ : St) (Q : VK) (u : Value) (s' : Shared) : Prop := ∃ v H', Inv X pins σ H' s' ∧ RelV v u ∧ Q v H'
def TP (X : Cx) (pins : List (Addr × Obj)) (σ : St) (Q : Bool → Hp → Prop) (b : Bool) (s' : Shared) : Prop := ∃ H', Inv X pins σ H' s' ∧ Q b H'
def AP (X : Cx) (pins : List (Addr × Obj)) (σ : St) (Q : List V → Hp → Prop) (us : List Value) (s' : Shared) : Prop := ∃ vs H', Inv X pins σ H' s' ∧ Vals vs us ∧ Q vs H'
def SP (X : Cx) (pins : List (Addr × Obj)) (D : Ends) (f : Flow) (s' : Shared) : Prop :=
  match f with
  | .next => ∃ σ' H', Inv X pins σ' H' s' ∧ D.nx σ' H'
  | .brk => ∃ σ' H', Inv X pins σ' H' s' ∧ D.bk σ' H'
  | .cont => ∃ σ' H', Inv X pins σ' H' s' ∧ D.ct σ' H'
  | .ret u => ∃ v σ' H', Inv X pins σ' H' s' ∧ RelV v u ∧ D.rt v H'
def PE (X : Cx) (e : Expr) (t : TE) : Prop :=
  ∀ (pins : List (Addr × Obj)) (s : Shared) (σ : St) (H : Hp) (Q : VK), Inv X pins σ H s → t σ H Q → wpAny (model X.prog X.w) X.A (eval e X.env) (EP X pins σ Q) X.xe s
def PT (X : Cx) (e : Expr) (t : TT) : Prop :=
  ∀ (pins : List (Addr × Obj)) (s : Shared) (σ : St) (H : Hp) (Q : Bool → Hp → Prop), Inv X pins σ H s → t σ H Q → wpAny (model X.prog X.w) X.A (isTrue e X.env (eval e X.env)) (TP X pins σ Q) X.xe s
def PW (X : Cx) (e : Expr) (t : TT) : Prop :=
  ∀ (whole : Sem Value) (pins : List (Addr × Obj)) (s : Shared) (σ : St) (H : Hp) (Q : Bool → Hp → Prop), Inv X pins σ H s → t σ H Q → wpAny (model X.prog X.w) X.A (isTrue e X.env whole) (TP X pins σ Q) X.xe s
theorem PW.pt {X : Cx} {e : Expr} {t : TT} (h : PW X e t) : PT X e t := h _
def PA (X : Cx) (es : List Expr) (t : TA) : Prop :=
  ∀ (pos : Pos) (pins : List (Addr × Obj)) (s : Shared) (σ : St) (H : Hp) (Q : List V → Hp → Prop), Inv X pins σ H s → t σ H Q → wpAny (model X.prog X.w) X.A (spliced (backTo pos (starEach es X.env))) (AP X pins σ Q) X.xe s
def PS (X : Cx) (st : Stmt) (t : TS) : Prop :=
  ∀ (pins : List (Addr × Obj)) (s : Shared) (σ : St) (H : Hp) (D : Ends), Inv X pins σ H s → t D σ H → wpAny (model X.prog X.w) X.A (exec st X.env) (SP X pins D) X.xe s
def PSs (X : Cx) (st : List Stmt) (t : TS) : Prop :=
  ∀ (pins : List (Addr × Obj)) (s : Shared) (σ : St) (H : Hp) (D : Ends), Inv X pins σ H s → t D σ H → wpAny (model X.prog X.w) X.A (execs st X.env) (SP X pins D) X.xe s
theorem thn {α : Type} {t : Sem α} {Q Q' : α → Shared → Prop} {M : Model} {A : Around} {E : Value → Shared → Prop} {s : Shared} (h : wpAny M A t Q E s) (hQ : ∀ a s, Q a s → Q' a s) : wpAny M A t Q' E s := wpAny_mono h hQ fun _ _ x => x
end L2
namespace L2
open PySem PySem.Spec PyProof.Rows
section
variable {X : Cx}
def tVar (i : Nat) : TE := fun σ H Q => ∃ v, σ[i]? = some (some v) ∧ Q v H
def tC (v : V) : TE := fun _ H Q => Q v H
theorem pe_var {i : Nat} {x : Str} {pos : Pos} (hN : X.N[i]? = some x) (hv : Vis X.env.scope x) (hd : (x == ("__debug__" : Str)) = false := by decide) (hcd : (x == ("__classdict__" : Str)) = false := by decide) : PE X (.Name x pos) (tVar i) := by
  intro pins s σ H Q I h
  obtain ⟨v, e, h⟩ := h
  obtain ⟨m, hn, hl⟩ := I.loc
  obtain ⟨u, r, l⟩ := hl i x v hN e hv
  have fin : EP X pins σ Q u s := ⟨v, H, I, r, h⟩
  rcases l with ⟨hk, hm⟩ | ⟨hk, c, hc, hcell⟩
  · exact wpAny_Name (wpAny_loadName_local I.ok.kind hk hn hm fin) hd
  · rcases hk with hk | hk
    · exact wpAny_Name (wpAny_loadName_cell I.ok.kind hk hc hcell fin) hd
    · exact wpAny_Name (wpAny_loadName_free I.ok.kind hk hc hcell fin hcd) hd
theorem pe_int {i j pos} : PE X (.Constant (.int i) j pos) (tC (.int i)) := fun _ _ _ H _ I h => wpAny_Constant_int ⟨.int i, H, I.tok _, ⟨_, rfl⟩, h⟩
theorem pe_bl {b j pos} : PE X (.Constant (.bool b) j pos) (tC (.bl b)) := fun _ _ _ H _ I h => Constant_bool ⟨.bl b, H, I, rfl, h⟩
def Gl (X : Cx) (x : Str) : Prop := X.env.kindOf x = some .globalImplicit
theorem ld_glob {E : Value → Shared → Prop} {pins : List (Addr × Obj)} {s : Shared} {σ : St} {H : Hp} {x : Str} {u : Value} {pos : Pos} {Q : Value → Shared → Prop} (I : Inv X pins σ H s) (hg : Gl X x) (hm : X.mg x = some u) (h : Q u s)
    (hd : (x == ("__debug__" : Str)) = false := by decide) : wpAny (model X.prog X.w) X.A (eval (.Name x pos) X.env) Q E s :=
  Calls.Name_function_global I.ok.kind hg (Calls.loadGlobal_global (by rw [I.ok.glob]; exact I.mod.glob.keeps I.bk) hm h) hd
theorem ld_blt {E : Value → Shared → Prop} {pins : List (Addr × Obj)} {s : Shared} {σ : St} {H : Hp} {x : Str} {u : Value} {pos : Pos} {Q : Value → Shared → Prop} (I : Inv X pins σ H s) (hg : Gl X x) (hm : X.mg x = none) (hv : bootBuiltins x = some u) (h : Q u s)
    (hn : x ≠ "__name__" := by decide) (hd : (x == ("__debug__" : Str)) = false := by decide) : wpAny (model X.prog X.w) X.A (eval (.Name x pos) X.env) Q E s := by
  obtain ⟨mb, h1, h2⟩ := I.mod.blt
  exact Calls.Name_function_global I.ok.kind hg (Calls.loadGlobal_builtin (by rw [I.ok.glob]; exact I.mod.glob.keeps I.bk) hm (by rw [I.ok.blt]; exact h1.keeps I.bk) ((h2 x hn).trans hv) h) hd
theorem pe_glob {x : Str} {v : V} {u : Value} {pos : Pos} (hg : Gl X x) (hm : X.mg x = some u) (r : RelV v u) (hd : (x == ("__debug__" : Str)) = false := by decide) : PE X (.Name x pos) (tC v) :=
  fun _ _ _ H _ I h => ld_glob I hg hm ⟨v, H, I, r, h⟩ hd
variable {a b : Expr} {ta tb : TE} {pos : Pos}
def tB (t : TE) : TT := fun σ H Q => t σ H fun x H1 => ∃ c, x = .bl c ∧ Q c H1
theorem pt_val {e : Expr} {t : TE} (h : PE X e t) (he : ∀ whole, isTrue e X.env whole = (do let v ← whole; standAt e.pos; holding [v] (truthy v)) := by intro _; rfl) : PT X e (tB t) := by
  intro pins s σ H Q I hw
  refine isTrue_plain (thn (h pins s σ H _ I hw) fun v s1 ⟨x, H1, I1, r1, q1⟩ => ?_) (he _)
  obtain ⟨d, rfl, q⟩ := q1
  cases r1
  exact wpAny_truthy_bool ⟨H1, I1, q⟩
variable {tA tB' : TT} {rest : List Expr}
def tAnd (t u : TT) : TT := fun σ H Q => t σ H fun c H1 => if c = true then u σ H1 Q else Q false H1
def tOr (t u : TT) : TT := fun σ H Q => t σ H fun c H1 => if c = true then Q true H1 else u σ H1 Q
def tNot (t : TT) : TT := fun σ H Q => t σ H fun c H1 => Q (!c) H1
theorem pw_and1 (ha : PT X a tA) : PW X (.BoolOp .And [a] pos) tA := by
  intro wh pins s σ H Q I h
  refine isTrue_and (thn (ha pins s σ H Q I h) fun c s1 e => ?_)
  cases c with
  | true => exact isTrue_and_nil e
  | false => exact e
theorem pw_or1 (ha : PT X a tA) : PW X (.BoolOp .Or [a] pos) tA := by
  intro wh pins s σ H Q I h
  refine isTrue_or (thn (ha pins s σ H Q I h) fun c s1 e => ?_)
  cases c with
  | false => exact isTrue_or_nil e
  | true => exact e
theorem pw_and (ha : PT X a tA) (hb : PW X (.BoolOp .And (b :: rest) pos) tB') : PW X (.BoolOp .And (a :: b :: rest) pos) (tAnd tA tB') := by
  intro wh pins s σ H Q I h
  refine isTrue_and (thn (ha pins s σ H _ I h) fun c s1 ⟨H1, I1, q1⟩ => ?_)
  cases c with
  | true => exact hb wh pins s1 σ H1 Q I1 q1
  | false => exact ⟨H1, I1, q1⟩
theorem pw_or (ha : PT X a tA) (hb : PW X (.BoolOp .Or (b :: rest) pos) tB') : PW X (.BoolOp .Or (a :: b :: rest) pos) (tOr tA tB') := by
  intro wh pins s σ H Q I h
  refine isTrue_or (thn (ha pins s σ H _ I h) fun c s1 ⟨H1, I1, q1⟩ => ?_)
  cases c with
  | true => exact ⟨H1, I1, q1⟩
  | false => exact hb wh pins s1 σ H1 Q I1 q1
theorem pt_not (ha : PT X a tA) : PT X (.UnaryOp .Not a pos) (tNot tA) := by
  intro pins s σ H Q I h
  exact isTrue_not (ha pins s σ H (fun c H1 => Q (!c) H1) I h)
def tAndV (ta tb : TE) : TE := fun σ H Q => ta σ H fun x H1 => ∃ c, x = .bl c ∧ if c = true then tb σ H1 Q else Q (.bl false) H1
def tOrV (ta tb : TE) : TE := fun σ H Q => ta σ H fun x H1 => ∃ c, x = .bl c ∧ if c = true then Q (.bl true) H1 else tb σ H1 Q
theorem pe_one {op} {t : TE} (h : PE X a t) : PE X (.BoolOp op [a] pos) t := fun pins s σ H Q I hw => BoolOp_one (h pins s σ H Q I hw)
theorem pe_and (ha : PE X a ta) (hb : PE X (.BoolOp .And (b :: rest) pos) tb) : PE X (.BoolOp .And (a :: b :: rest) pos) (tAndV ta tb) := by
  intro pins s σ H Q I h
  refine BoolOp_and (thn (ha pins s σ H _ I h) fun v s1 ⟨x, H1, I1, r1, q1⟩ => ?_)
  obtain ⟨c, rfl, q1⟩ := q1
  cases r1
  refine wpAny_truthy_bool ?_
  cases c with
  | true => exact hb pins s1 σ H1 Q I1 q1
  | false => exact ⟨.bl false, H1, I1, rfl, q1⟩
theorem pe_or (ha : PE X a ta) (hb : PE X (.BoolOp .Or (b :: rest) pos) tb) : PE X (.BoolOp .Or (a :: b :: rest) pos) (tOrV ta tb) := by
  intro pins s σ H Q I h
  refine BoolOp_or (thn (ha pins s σ H _ I h) fun v s1 ⟨x, H1, I1, r1, q1⟩ => ?_)
  obtain ⟨c, rfl, q1⟩ := q1
  cases r1
  refine wpAny_truthy_bool ?_
  cases c with
  | false => exact hb pins s1 σ H1 Q I1 q1
  | true => exact ⟨.bl true, H1, I1, rfl, q1⟩
def tIf (t : TT) (ta tb : TE) : TE := fun σ H Q => t σ H fun c H1 => if c = true then ta σ H1 Q else tb σ H1 Q
theorem pe_ifExp {c : Expr} (hc : PT X c tA) (ha : PE X a ta) (hb : PE X b tb) : PE X (.IfExp c a b pos) (tIf tA ta tb) := by
  intro pins s σ H Q I h
  refine wpAny_IfExp (thn (hc pins s σ H _ I h) fun d s1 ⟨H1, I1, q1⟩ => ?_)
  cases d with
  | true => exact ha pins s1 σ H1 Q I1 q1
  | false => exact hb pins s1 σ H1 Q I1 q1
end
end L2
namespace L2
open PySem PySem.Spec PyProof.Rows
def SqL (K : PySem.W.Frag) (H : Hp) (a : Addr) (xs : List V) : Prop :=
  Rd H a (.lst xs) ∨
    ∃ (o : Obj) (its : Array Value) (n : Nat), K.lookup a = some o ∧ o.cls = .type "list" ∧ o.dict = none ∧ o.data = .seq its n ∧ its.size ≤ sizeLine ∧ Vals xs its.toList
def SqT (K : PySem.W.Frag) (H : Hp) (a : Addr) (xs : List V) : Prop :=
  Rd H a (.tup xs) ∨
    ∃ (o : Obj) (its : Array Value) (n : Nat), K.lookup a = some o ∧ o.cls = .type "tuple" ∧ o.data = .seq its n ∧ its.size ≤ sizeLine ∧ Vals xs its.toList
def absV : Value → Option V
  | .none => some .non
  | .bool b => some (.bl b)
  | .int i _ => some (.int i)
  | .str x _ => some (.str x)
  | .bytes b _ => some (.byt b)
  | .float b _ => some (.flt b)
  | .ref a => some (.ref a)
  | .type n => some (.ty n)
  | _ => none
theorem RelV.abs {x : V} {u : Value} (r : RelV x u) : absV u = some x := by
  cases x with
  | non => cases r; rfl
  | bl _ => cases r; rfl
  | int _ => obtain ⟨t, rfl⟩ := r; rfl
  | str _ => obtain ⟨t, rfl⟩ := r; rfl
  | byt _ => obtain ⟨t, rfl⟩ := r; rfl
  | flt _ => obtain ⟨t, rfl⟩ := r; rfl
  | ref _ => cases r; rfl
  | ty _ => cases r; rfl
theorem RelV.inj {x y : V} {u : Value} (r : RelV x u) (q : RelV y u) : x = y := Option.some.inj (r.abs.symm.trans q.abs)
theorem Vals.inj : ∀ {xs ys : List V} {us : List Value}, Vals xs us → Vals ys us → xs = ys
  | _, _, _, .nil, .nil => rfl
  | _, _, _, .cons r t, .cons r' t' => by rw [r.inj r', Vals.inj t t']
section
variable {X : Cx} {pins : List (Addr × Obj)} {σ : St} {H : Hp} {s : Shared} {a : Addr} {xs ys : List V}
theorem SqL.of {K : PySem.W.Frag} (h : H a = some (.lst xs)) : SqL K H a xs := .inl (.inl h)
theorem SqT.of {K : PySem.W.Frag} (h : H a = some (.tup xs)) : SqT K H a xs := .inl (.inl h)
theorem Inv.list (I : Inv X pins σ H s) (h : SqL X.K H a xs) : ∃ its : List Value, Vals xs its ∧ PlainL s.heap a its.toArray ∧ xs.length ≤ sizeLine := by
  rcases h with h | ⟨o, its, n, hk, hc, hd, hs, hz, r⟩
  · obtain ⟨z, its, n, r, e⟩ := h.ok I.hok
    exact ⟨its, r, ⟨_, n, e, rfl, rfl, rfl⟩, z⟩
  · refine ⟨its.toList, r, ⟨o, n, I.kIn a o hk, hc, hd, by simpa using hs⟩, ?_⟩
    have e := r.length
    simp only [Array.length_toList] at e
    omega
theorem Inv.tuple (I : Inv X pins σ H s) (h : SqT X.K H a xs) : ∃ its : List Value, Vals xs its ∧ IsTup s.heap a its.toArray ∧ xs.length ≤ sizeLine := by
  rcases h with h | ⟨o, its, n, hk, hc, hs, hz, r⟩
  · obtain ⟨z, its, r, p⟩ := h.ok I.hok
    exact ⟨its, r, p, z⟩
  · refine ⟨its.toList, r, ⟨o, I.kIn a o hk, hc, n, by simpa using hs⟩, ?_⟩
    have e := r.length
    simp only [Array.length_toList] at e
    omega
theorem Inv.list_inj (I : Inv X pins σ H s) (h : SqL X.K H a xs) (h' : SqL X.K H a ys) : xs = ys := by
  obtain ⟨its, r, ⟨o, n, e, _, _, d⟩, _⟩ := I.list h
  obtain ⟨its', r', ⟨o', n', e', _, _, d'⟩, _⟩ := I.list h'
  rw [e] at e'; cases e'
  rw [d] at d'
  injection d' with d1 _
  have : its = its' := by simpa using congrArg Array.toList d1
  subst this
  exact r.inj r'
end
abbrev Cx.wish (X : Cx) (E : Value → Shared → Prop) : Cx := { X with xe := E }
abbrev Cx.nox (X : Cx) : Cx := X.wish fun _ _ => False
theorem Cx.Ok.wish {X : Cx} (ok : X.Ok) (E : Value → Shared → Prop) : (X.wish E).Ok :=
  ⟨ok.mod, ok.kind, ok.glob, ok.blt, ok.above, ok.inj, ok.has, ok.cab, ok.hd, ok.frames, ok.stk, ok.exf, ok.bs, ok.bsz, ok.noex, ok.exfs, ok.funs, ok.frf⟩
theorem Cx.Ok.unwish {X : Cx} {E : Value → Shared → Prop} (ok : (X.wish E).Ok) : X.Ok :=
  ⟨ok.mod, ok.kind, ok.glob, ok.blt, ok.above, ok.inj, ok.has, ok.cab, ok.hd, ok.frames, ok.stk, ok.exf, ok.bs, ok.bsz, ok.noex, ok.exfs, ok.funs, ok.frf⟩
section
variable {X : Cx} {pins : List (Addr × Obj)} {σ : St} {H : Hp} {s : Shared} {E : Value → Shared → Prop}
theorem Inv.wish (I : Inv X pins σ H s) (E : Value → Shared → Prop) : Inv (X.wish E) pins σ H s := ⟨I.ok.wish E, I.os, I.bare, I.base, I.loc, I.cell, I.free, I.freeC, I.pin, I.hok, I.len⟩
theorem Inv.unwish (I : Inv (X.wish E) pins σ H s) : Inv X pins σ H s := ⟨I.ok.unwish, I.os, I.bare, I.base, I.loc, I.cell, I.free, I.freeC, I.pin, I.hok, I.len⟩
theorem SP.unwish {D : Ends} {f : Flow} {s' : Shared} (h : SP (X.wish E) pins D f s') : SP X pins D f s' := by
  cases f with
  | next => obtain ⟨σ', H', I, q⟩ := h; exact ⟨σ', H', I.unwish, q⟩
  | brk => obtain ⟨σ', H', I, q⟩ := h; exact ⟨σ', H', I.unwish, q⟩
  | cont => obtain ⟨σ', H', I, q⟩ := h; exact ⟨σ', H', I.unwish, q⟩
  | ret u => obtain ⟨v, σ', H', I, r, q⟩ := h; exact ⟨v, σ', H', I.unwish, r, q⟩
theorem PSs.nox {st : List Stmt} {t : TS} (h : PSs X.nox st t) : PSs X st t := fun pins s σ H D I hw =>
  wpAny_mono (h pins s σ H D (I.wish _) hw) (fun _ _ q => q.unwish) fun _ _ z => False.elim z
end
section
variable {X : Cx} {st : Stmt} {rest : List Stmt} {t u : TS} {e : Expr} {te : TE} {pos : Pos}
def tNext : TS := fun D σ H => D.nx σ H
def tSeq (t u : TS) : TS := fun D σ H => t { D with nx := u D } σ H
theorem pss_nil : PSs X [] tNext := fun _ _ σ H _ I h => wpAny_execs_nil ⟨σ, H, I, h⟩
theorem pss_cons (h1 : PS X st t) (h2 : PSs X rest u) : PSs X (st :: rest) (tSeq t u) := by
  intro pins s σ H D I h
  refine wpAny_execs_cons (thn (h1 pins s σ H { D with nx := u D } I h) fun f s1 q => ?_)
  cases f with
  | next =>
    obtain ⟨σ', H', I', q⟩ := q
    exact h2 pins s1 σ' H' D I' q
  | ret v => exact q
  | brk => exact q
  | cont => exact q
theorem pss_one (h1 : PS X st t) : PSs X [st] t := by
  intro pins s σ H D I h
  refine wpAny_execs_cons (thn (h1 pins s σ H D I h) fun f s1 q => ?_)
  cases f with
  | next => exact wpAny_execs_nil q
  | ret v => exact q
  | brk => exact q
  | cont => exact q
theorem Inv.quiet {pins : List (Addr × Obj)} {σ : St} {H : Hp} {s : Shared} (I : Inv X pins σ H s) : interactive X.env = false := by simp [interactive, I.ok.kind]
def tDrop (te : TE) : TS := fun D σ H => te σ H fun _ H1 => D.nx σ H1
theorem ps_expr (he : PE X e te) (hs : swapsWith e none pos.line X.env = pure false := by rfl) : PS X (.Expr e pos) (tDrop te) := by
  intro pins s σ H D I h
  exact wpAny_Expr_any (thn (he pins s σ H _ I h) fun v s1 ⟨x, H1, I1, r1, q1⟩ => ⟨σ, H1, I1, q1⟩) I.quiet hs
def tRet (te : TE) : TS := fun D σ H => te σ H D.rt
theorem ps_ret (he : PE X e te) : PS X (.Return (some e) pos) (tRet te) := by
  intro pins s σ H D I h
  exact wpAny_Return_some (thn (he pins s σ H _ I h) fun v s1 ⟨x, H1, I1, r1, q1⟩ => ⟨x, σ, H1, I1, r1, q1⟩)
def tIfS (c : TT) (t u : TS) : TS := fun D σ H => c σ H fun b H1 => if b = true then t D σ H1 else u D σ H1
theorem ps_if {c : Expr} {a b : List Stmt} {tc : TT} (hc : PT X c tc) (ha : PSs X a t) (hb : PSs X b u) : PS X (.If c a b pos) (tIfS tc t u) := by
  intro pins s σ H D I h
  refine wpAny_If (thn (hc pins s σ H _ I h) fun d s1 ⟨H1, I1, q1⟩ => ?_)
  cases d with
  | true => exact ha pins s1 σ H1 D I1 q1
  | false => exact hb pins s1 σ H1 D I1 q1
end
abbrev TG := V → St → Hp → (St → Hp → Prop) → Prop
abbrev TGs := List V → St → Hp → (St → Hp → Prop) → Prop
def PG (X : Cx) (target : Expr) (t : TG) : Prop :=
  ∀ (pins : List (Addr × Obj)) (s : Shared) (σ : St) (H : Hp) (v : V) (u : Value) (Q : St → Hp → Prop), Inv X pins σ H s → RelV v u → t v σ H Q →
    wpAny (model X.prog X.w) X.A (assign target X.env u) (fun _ s' => ∃ σ' H', Inv X pins σ' H' s' ∧ Q σ' H') X.xe s
def PGs (X : Cx) (ts : List Expr) (t : TGs) : Prop :=
  ∀ (pins : List (Addr × Obj)) (s : Shared) (σ : St) (H : Hp) (vs : List V) (us : List Value) (Q : St → Hp → Prop), Inv X pins σ H s → Vals vs us → t vs σ H Q →
    wpAny (model X.prog X.w) X.A (assignInOrder ((assignEach ts X.env).map (·.2)) us) (fun _ s' => ∃ σ' H', Inv X pins σ' H' s' ∧ Q σ' H') X.xe s
abbrev TSet := V → V → V → Hp → (Hp → Prop) → Prop
def PSet (X : Cx) (t : TSet) : Prop :=
  ∀ (pins : List (Addr × Obj)) (s : Shared) (σ : St) (H : Hp) (o i v : V) (ov iv u : Value) (Q : Hp → Prop), Inv X pins σ H s → RelV o ov → RelV i iv → RelV v u → t o i v H Q →
    wpAny (model X.prog X.w) X.A (setItem ov iv u) (fun _ s' => ∃ H', Inv X pins σ H' s' ∧ Q H') X.xe s
abbrev TIp := V → V → Hp → VK → Prop
def PIp (X : Cx) (op : Operator) (t : TIp) : Prop :=
  ∀ (pins : List (Addr × Obj)) (s : Shared) (σ : St) (H : Hp) (x y : V) (v u : Value) (Q : VK), Inv X pins σ H s → RelV x v → RelV y u → t x y H Q →
    wpAny (model X.prog X.w) X.A (inplaceOp op v u) (EP X pins σ Q) X.xe s
section
variable {X : Cx} {pos : Pos}
def gName (i : Nat) : TG := fun v σ H Q => Q (σ.set i (some v)) H
theorem pg_name {i : Nat} {x : Str} (hN : X.N.Nodup) (hi : X.N[i]? = some x) (hx : Loc X.env.scope x) (hf : X.fn x = true ∨ X.env.scope.names.lookup x = some .local := by first | exact .inl rfl | exact .inr rfl | assumption) : PG X (.Name x pos) (gName i) := by
  intro pins s σ H v u Q I r h
  exact wpAny_assign_Name (store_ok I hN hi hx r (fun s' I' => ⟨_, H, I', h⟩) hf)
def gNil : TGs := fun vs σ H Q => vs = [] ∧ Q σ H
def gCons (t : TG) (u : TGs) : TGs := fun vs σ H Q => ∃ v r, vs = v :: r ∧ t v σ H fun σ' H' => u r σ' H' Q
theorem pgs_nil : PGs X [] gNil := by
  intro pins s σ H vs us Q I r h
  obtain ⟨e, h⟩ := h
  subst e
  cases r
  exact assignInOrder_nil ⟨σ, H, I, h⟩
theorem pgs_cons {e : Expr} {es : List Expr} {t : TG} {u : TGs} (h1 : PG X e t) (h2 : PGs X es u)
    (hs : (assignEach (e :: es) X.env).map (·.2) = assign e X.env :: (assignEach es X.env).map (·.2) := by rfl) : PGs X (e :: es) (gCons t u) := by
  intro pins s σ H vs us Q I r h
  obtain ⟨v, vr, e1, h⟩ := h
  subst e1
  cases r with
  | cons r rr =>
    rw [hs]
    refine assignInOrder_cons (thn (h1 pins s σ H _ _ _ I r h) fun _ s1 ⟨σ1, H1, I1, q1⟩ => ?_)
    exact h2 pins s1 σ1 H1 _ _ Q I1 rr q1
def gTup (K : PySem.W.Frag) (n : Nat) (t : TGs) : TG := fun v σ H Q => ∃ a xs, v = .ref a ∧ SqT K H a xs ∧ xs.length = n ∧ t xs σ H Q
theorem pg_tup {es : List Expr} {k : Nat} {t : TGs} {n : Nat} (hc : X.calm = true) (h : PGs X es t)
    (hn : (assignEach es X.env).length = n := by rfl) (hst : (assignEach es X.env).findIdx? (·.1) = none := by rfl) : PG X (.Tuple es k pos) (gTup X.K n t) := by
  intro pins s σ H v u Q I r hw
  obtain ⟨a, xs, e1, hq, hl, hw⟩ := hw
  subst e1
  cases r
  obtain ⟨its, rv, ht, hz⟩ := I.tuple hq
  refine assign_Tuple_tuple (I.ok.hd hc) ht (by simp [hn, ← hl, rv.length]) hst fun h' hx => ?_
  have I1 : Inv X pins σ H { s with heap := h' } := I.kept (t' := s.toks) fun b o e => hx b o (Nat.ne_of_lt (Heap.lt_size e)) e
  exact h pins _ σ H xs _ Q I1 (by simpa using rv) hw
def gSub (to ti : TE) (t : TSet) : TG := fun v σ H Q => to σ H fun o H1 => ti σ H1 fun i H2 => t o i v H2 fun H3 => Q σ H3
theorem pg_sub {o i : Expr} {to ti : TE} {t : TSet} (ho : PE X o to) (hi : PE X i ti) (hs : PSet X t)
    (ha : ∀ v, assign (.Subscript o i pos) X.env v = (do
      let ov ← holding [v] (eval o X.env)
      let iv ← holding [v, ov] (eval i X.env)
      standAt pos
      holding [v, ov, iv] (setItem ov iv v)
      release [v, ov, iv] []) := by intro _; rfl) : PG X (.Subscript o i pos) (gSub to ti t) := by
  intro pins s σ H v u Q I r h
  rw [ha]
  refine wpAny_bind (wpAny_holding (thn (ho pins s σ H _ I h) fun ov s1 ⟨x, H1, I1, r1, q1⟩ => ?_))
  refine wpAny_bind (wpAny_holding (thn (hi pins s1 σ H1 _ I1 q1) fun iv s2 ⟨y, H2, I2, r2, q2⟩ => ?_))
  refine wpAny_bind (wpAny_standAt (wpAny_bind (wpAny_holding (thn (hs pins s2 σ H2 x y v ov iv u _ I2 r1 r2 r q2) fun _ s3 ⟨H3, I3, q3⟩ => ?_))))
  exact wpAny_release ⟨σ, H3, I3, q3⟩
def tAsg (te : TE) (g : TG) : TS := fun D σ H => te σ H fun x H1 => g x σ H1 D.nx
theorem ps_asg {tg e : Expr} {te : TE} {g : TG} (he : PE X e te) (hg : PG X tg g) (hs : swapsWithSole [tg] e pos.line X.env = pure false := by rfl) (hw : swappedStores [tg] e X.env = pure none := by rfl)
    (h1 : (assignEach [tg] X.env).map (·.2) = [assign tg X.env] := by rfl) : PS X (.Assign [tg] e pos) (tAsg te g) := by
  intro pins s σ H D I h
  refine wpAny_Assign_stores (thn (he pins s σ H _ I h) fun v s1 ⟨x, H1, I1, r1, q1⟩ => ?_) hs hw
  rw [h1]
  exact thn (hg pins s1 σ H1 x v _ I1 r1 q1) fun _ s2 q => q
theorem ps_set {i : Nat} {x : Str} {e : Expr} {te : TE} {pos' : Pos} (hN : X.N.Nodup) (hi : X.N[i]? = some x) (hx : Loc X.env.scope x) (he : PE X e te) (hs : swapsWith e (some (.Name x pos')) pos.line X.env = pure false := by rfl) (hf : X.fn x = true ∨ X.env.scope.names.lookup x = some .local := by first | exact .inl rfl | exact .inr rfl | assumption) :
    PS X (.Assign [.Name x pos'] e pos) (tAsg te (gName i)) := by
  intro pins s σ H D I h
  refine wpAny_Assign_Name (thn (he pins s σ H _ I h) fun v s1 ⟨y, H1, I1, r1, q1⟩ => ?_) hs
  exact store_ok I1 hN hi hx r1 (fun s2 I2 => ⟨_, H1, I2, q1⟩) hf
def tAug (i : Nat) (te : TE) (ti : TIp) : TS := fun D σ H => ∃ x, σ[i]? = some (some x) ∧ te σ H fun y H1 => ti x y H1 fun z H2 => D.nx (σ.set i (some z)) H2
theorem ps_aug {i : Nat} {x : Str} {e : Expr} {te : TE} {op : Operator} {ti : TIp} {pos' : Pos} (hN : X.N.Nodup) (hi : X.N[i]? = some x) (hx : Loc X.env.scope x) (he : PE X e te) (ho : PIp X op ti) (hf : X.fn x = true ∨ X.env.scope.names.lookup x = some .local := by first | exact .inl rfl | exact .inr rfl | assumption) :
    PS X (.AugAssign (.Name x pos') op e pos) (tAug i te ti) := by
  intro pins s σ H D I h
  obtain ⟨v, e1, h⟩ := h
  obtain ⟨m, hn, hl⟩ := I.loc
  have vis : Vis X.env.scope x := by rcases hx with k | k; exact .inl k; exact .inr (.inl k)
  obtain ⟨u, r, l⟩ := hl i x v hi e1 vis
  refine wpAny_AugAssign_Name ?_
  have go : wpAny (model X.prog X.w) X.A (eval e X.env) (fun w s₂ => wpAny (model X.prog X.w) X.A (inplaceOp op u w) (fun r s₃ => wpAny (model X.prog X.w) X.A (storeName X.env x r) (fun _ => SP X pins D .next) X.xe s₃) X.xe s₂) X.xe s := by
    refine thn (he pins s σ H _ I h) fun w s1 ⟨y, H1, I1, r1, q1⟩ => ?_
    refine thn (ho pins s1 σ H1 v y u w _ I1 r r1 q1) fun z s2 ⟨zv, H2, I2, r2, q2⟩ => ?_
    exact store_ok I2 hN hi hx r2 (fun s3 I3 => ⟨_, H2, I3, q2⟩) hf
  rcases l with ⟨hk, hm⟩ | ⟨hk, c, hc, hcell⟩
  · exact wpAny_loadName_local I.ok.kind hk hn hm go
  · rcases hk with hk | hk
    · exact wpAny_loadName_cell I.ok.kind hk hc hcell go
    · rcases hx with k | k
      · have : X.env.scope.names.lookup x = some .free := hk
        rw [k] at this; cases this
      · have : X.env.scope.names.lookup x = some .free := hk
        rw [k] at this; cases this
def tAugS (to ti te : TE) (tget : V → V → Hp → VK → Prop) (tip : TIp) (tset : TSet) : TS := fun D σ H => to σ H fun o H1 => ti σ H1 fun i H2 => tget o i H2 fun x H3 => te σ H3 fun y H4 => tip x y H4 fun z H5 => tset o i z H5 fun H6 => D.nx σ H6
def PGet (X : Cx) (t : V → V → Hp → VK → Prop) : Prop :=
  ∀ (pins : List (Addr × Obj)) (s : Shared) (σ : St) (H : Hp) (o i : V) (ov iv : Value) (Q : VK), Inv X pins σ H s → RelV o ov → RelV i iv → t o i H Q →
    wpAny (model X.prog X.w) X.A (getItem ov iv) (EP X pins σ Q) X.xe s
theorem ps_augS {o i e : Expr} {to ti te : TE} {tget : V → V → Hp → VK → Prop} {tip : TIp} {tset : TSet} {op : Operator} {tpos : Pos} (ho : PE X o to) (hi : PE X i ti) (hg : PGet X tget) (he : PE X e te) (hp : PIp X op tip) (hs : PSet X tset)
    (ha : ∀ ov iv new, augStore i ov iv new = (do holding [new, ov, iv] (setItem ov iv new); release [new, ov, iv] []; pure .next) := by intros; rfl) : PS X (.AugAssign (.Subscript o i tpos) op e pos) (tAugS to ti te tget tip tset) := by
  intro pins s σ H D I h
  refine wpAny_AugAssign_SubscriptAny (thn (ho pins s σ H _ I h) fun ov s1 ⟨x1, H1, I1, r1, q1⟩ => ?_) ha
  refine thn (hi pins s1 σ H1 _ I1 q1) fun iv s2 ⟨x2, H2, I2, r2, q2⟩ => ?_
  refine thn (hg pins s2 σ H2 x1 x2 ov iv _ I2 r1 r2 q2) fun old s3 ⟨x3, H3, I3, r3, q3⟩ => ?_
  refine thn (he pins s3 σ H3 _ I3 q3) fun v s4 ⟨x4, H4, I4, r4, q4⟩ => ?_
  refine thn (hp pins s4 σ H4 x3 x4 old v _ I4 r3 r4 q4) fun new s5 ⟨x5, H5, I5, r5, q5⟩ => ?_
  exact thn (hs pins s5 σ H5 x1 x2 x5 ov iv new _ I5 r1 r2 r5 q5) fun _ s6 ⟨H6, I6, q6⟩ => ⟨σ, H6, I6, q6⟩
def ipI (f : Int → Int → Int) : TIp := fun x y H Q => ∃ i j, x = .int i ∧ y = .int j ∧ Q (.int (f i j)) H
theorem ip_add : PIp X .Add (ipI fun i j => i + j) := by
  intro pins s σ H x y v u Q I r1 r2 h
  obtain ⟨i, j, e1, e2, q⟩ := h
  subst e1; subst e2
  obtain ⟨t, rfl⟩ := r1
  obtain ⟨t', rfl⟩ := r2
  exact iadd_int ⟨.int _, H, I.tok _, ⟨_, rfl⟩, q⟩
theorem ip_sub : PIp X .Sub (ipI fun i j => i - j) := by
  intro pins s σ H x y v u Q I r1 r2 h
  obtain ⟨i, j, e1, e2, q⟩ := h
  subst e1; subst e2
  obtain ⟨t, rfl⟩ := r1
  obtain ⟨t', rfl⟩ := r2
  exact isub_int ⟨.int _, H, I.tok _, ⟨_, rfl⟩, q⟩
end
section
variable {X : Cx} {pos : Pos}
def tWhile (c : TT) (tb : TS) : TS := fun D σ H => ∃ W : Nat → St → Hp → Prop, (∃ m, W m σ H) ∧ ∀ m σ H, W m σ H →
  c σ H fun b H1 => if b = true then ∃ N : St → Hp → Prop, (∀ σ' H', N σ' H' → ∃ m', m' < m ∧ W m' σ' H') ∧ tb { D with nx := N, ct := N, bk := D.nx } σ H1 else D.nx σ H1
theorem ps_while {c : Expr} {body : List Stmt} {tc : TT} {tb : TS} (hp : PassesOwn (model X.prog X.w) X.A X.env X.xe) (hc : PT X c tc) (hb : PSs X body tb) : PS X (.While c body [] pos) (tWhile tc tb) := by
  intro pins s σ H D I h
  obtain ⟨W, ⟨m0, w0⟩, turn⟩ := h
  refine wpAny_While (codeAny_whileLoop (fun n s' => ∃ σ' H', Inv X pins σ' H' s' ∧ W n σ' H') ?_ m0 ⟨σ, H, I, w0⟩)
  rintro n s1 ⟨σ1, H1, I1, w1⟩
  refine wpAny_passesOwn hp (thn (hc pins s1 σ1 H1 _ I1 (turn n σ1 H1 w1)) fun b s2 ⟨H2, I2, q2⟩ => ?_)
  cases b with
  | true =>
    obtain ⟨N, hN, q2⟩ := q2
    rw [if_pos rfl]
    refine wpAny_passesOwn hp (thn (hb pins s2 σ1 H2 _ I2 q2) fun f s3 q3 => ?_)
    cases f with
    | next =>
      obtain ⟨σ3, H3, I3, n3⟩ := q3
      obtain ⟨m', hm, w3⟩ := hN σ3 H3 n3
      exact ⟨m', hm, σ3, H3, I3, w3⟩
    | cont =>
      obtain ⟨σ3, H3, I3, n3⟩ := q3
      obtain ⟨m', hm, w3⟩ := hN σ3 H3 n3
      exact ⟨m', hm, σ3, H3, I3, w3⟩
    | brk => exact q3
    | ret v => exact q3
  | false =>
    rw [if_neg Bool.false_ne_true]
    exact wpAny_execs_nil ⟨σ1, H2, I2, q2⟩
end
structure It where
  go : Nat → Hp → Prop
  yld : Nat → Hp → V → Hp → Prop
  stop : Nat → Hp → Prop
def FpOk (X : Cx) (pins : List (Addr × Obj)) (H : Hp) (b : Addr) : Prop :=
  H b = none ∧ b ≠ X.env.locals ∧ b ∉ X.fs ∧ (b ∈ X.ex ∨ X.s_0.heap.objs.size ≤ b) ∧ (∀ x c, X.env.cells.lookup x = some c → c ≠ b) ∧ ∀ p ∈ X.pn ++ pins, p.1 ≠ b
theorem Inv.fpOk {X : Cx} {pins : List (Addr × Obj)} {σ : St} {H H' : Hp} {s : Shared} {b : Addr} (I : Inv X pins σ H s) (hb : s.heap.objs.size ≤ b) (hn : H' b = none) : FpOk X pins H' b := by
  refine ⟨hn, Nat.ne_of_gt (Nat.lt_of_lt_of_le I.lt hb), I.nofs hb, .inr (Nat.le_trans I.sz hb), fun x c e z => ?_, fun p hp z => ?_⟩
  · obtain ⟨v, q⟩ := I.cell x c e
    exact absurd (Nat.lt_of_lt_of_le q.lt (by rw [z]; exact hb)) (Nat.lt_irrefl _)
  · exact absurd (Nat.lt_of_lt_of_le (Heap.lt_size (I.pin p hp).1) (by rw [z]; exact hb)) (Nat.lt_irrefl _)
structure Turn (P : Program) (w : World) (K : PySem.W.Frag) (tg : Expr) (J : It) (fp : List Addr) (it : Addr) (tn : Nat → Heap → Prop) : Prop where
  mem : it ∈ fp
  obj : ∀ i h, tn i h → ∀ b ∈ fp, ∃ o, h.get? b = some o ∧ ∀ v, o.data ≠ .cell v
  keep : ∀ i h h', tn i h → (∀ b ∈ fp, ∀ o, h.get? b = some o → h'.get? b = some o) → tn i h'
  item : ∀ (X : Cx), X.prog = P → X.w = w → X.K = K → X.calm = true → ∀ (i : Nat) (pins : List (Addr × Obj)) (s : Shared) (σ : St) (H : Hp) (E : Value → Shared → Prop), Inv X pins σ H s → (∀ b ∈ fp, FpOk X pins H b) → tn i s.heap → J.go i H →
    wpAny (model P w) X.A (pyNext (.ref it)) (fun r s1 => ∃ u, r = some u ∧
      wpAny (model P w) X.A (letOwnedTupleGo tg (.ref it) u) (fun _ s2 => ∃ x H', Inv X pins σ H' s2 ∧ RelV x u ∧ J.yld i H x H' ∧ tn (i + 1) s2.heap ∧ ∀ b ∈ fp, H' b = none) E s1) E s
  done : ∀ (X : Cx), X.prog = P → X.w = w → X.K = K → X.calm = true → ∀ (i : Nat) (pins : List (Addr × Obj)) (s : Shared) (σ : St) (H : Hp) (E : Value → Shared → Prop), Inv X pins σ H s → (∀ b ∈ fp, FpOk X pins H b) → tn i s.heap → J.stop i H →
    wpAny (model P w) X.A (pyNext (.ref it)) (fun r s1 => r = none ∧ Inv X pins σ H s1) E s
  self : ∀ (A : Around) (i : Nat) (s : Shared) (Q : Value → Shared → Prop) (E : Value → Shared → Prop), tn i s.heap → Q (.ref it) s → wpAny (model P w) A (pyIter (.ref it)) Q E s
abbrev TI := St → Hp → (It → Hp → Prop) → Prop
def PIE (X : Cx) (pins : List (Addr × Obj)) (σ : St) (tg : Expr) (R : It → Hp → Prop) (itv : Value) (s2 : Shared) : Prop :=
  ∃ (it : Addr) (fp : List Addr) (tn : Nat → Heap → Prop) (J : It) (H' : Hp), itv = .ref it ∧ Inv X pins σ H' s2 ∧ Turn X.prog X.w X.K tg J fp it tn ∧ tn 0 s2.heap ∧ (∀ b ∈ fp, FpOk X pins H' b) ∧ R J H'
def PI (X : Cx) (tg iter : Expr) (wi : TI) : Prop :=
  ∀ (pins : List (Addr × Obj)) (s : Shared) (σ : St) (H : Hp) (R : It → Hp → Prop), Inv X pins σ H s → wi σ H R →
    wpAny (model X.prog X.w) X.A (eval iter X.env) (fun v s1 => wpAny (model X.prog X.w) X.A (pyIter v) (PIE X pins σ tg R) X.xe s1) X.xe s
theorem go_of {M : Model} {A : Around} {E : Value → Shared → Prop} {s : Shared} {tg : Expr} {it : Addr} {u : Value} {o : Obj} {n : String} {vs : Array Value} {Q : Unit → Shared → Prop} (ho : s.heap.get? it = some o) (hc : o.cls = .type n) (hd : o.data = .fields vs)
    (hn : ["enumerate", "zip", "dict_itemiterator", "dict_reverseitemiterator", "odict_iterator", "itertools.zip_longest", "itertools.pairwise"].contains n = false) (hQ : Q () s) : wpAny M A (letOwnedTupleGo tg (.ref it) u) Q E s := by
  unfold letOwnedTupleGo
  cases tg <;> first
    | exact wpAny_pure hQ
    | (cases u <;> first
        | exact wpAny_pure hQ
        | (refine wpAny_bind (wpAny_load ho ?_)
           rw [hc, hd]
           show wpAny M A (if (["enumerate", "zip", "dict_itemiterator", "dict_reverseitemiterator", "odict_iterator", "itertools.zip_longest", "itertools.pairwise"].contains n && vs[0]? == some (rawInt _)) = true then _ else _) Q E s
           rw [if_neg (by intro h; rw [hn, Bool.false_and] at h; cases h)]
           exact wpAny_pure hQ))
def Itl (K : PySem.W.Frag) (a : Addr) : It :=
  ⟨fun i H => ∃ xs x, SqL K H a xs ∧ xs[i]? = some x, fun i H x H' => H' = H ∧ ∀ xs, SqL K H a xs → xs[i]? = some x, fun i H => ∃ xs, SqL K H a xs ∧ xs.length ≤ i⟩
def Itr (lo : Int) (n : Nat) : It := ⟨fun i _ => i < n, fun i H x H' => H' = H ∧ x = .int (lo + i), fun i _ => n ≤ i⟩
theorem turn_list {P : Program} {w : World} {K : PySem.W.Frag} {tg : Expr} (a it : Addr) : Turn P w K tg (Itl K a) [it] it (fun i h => h.IsListIter it a i) where
  mem := by simp
  obj := fun i h st b hb => by
    have e : b = it := by simpa using hb
    subst e
    obtain ⟨o, e, c, d⟩ := st
    exact ⟨o, e, fun v z => by rw [d] at z; cases z⟩
  keep := fun i h h' st k => st.at fun o e => k it (by simp) o e
  item := by
    intro X hP hw hK hc i pins s σ H E I hf st hg
    subst hP hw hK
    obtain ⟨xs, x, hq, hx⟩ := hg
    obtain ⟨its, rv, p, hz⟩ := I.list hq
    obtain ⟨u, hu, ru⟩ := rv.get hx
    obtain ⟨f0, f1, f2, f3, f4, f5⟩ := hf it (by simp)
    refine wpAny_pyNext_list_item st p.isList (x := u) (by simpa using hu) fun h' st' sb => ?_
    have I1 : Inv X pins σ H { s with heap := h' } := I.turned (t' := s.toks) (fun b o hb e => (sb.2 b hb).trans e) f0 f1 f3 f4 f5
    obtain ⟨o, e, c, d⟩ := id st'
    exact ⟨u, rfl, go_of (s := { s with heap := h' }) e c d (by decide) ⟨x, H, I1, ru, ⟨rfl, fun ys hy => by rw [I.list_inj hy hq]; exact hx⟩, st', fun b hb => (hf b hb).1⟩⟩
  done := by
    intro X hP hw hK hc i pins s σ H E I hf st hg
    subst hP hw hK
    obtain ⟨xs, hq, hx⟩ := hg
    obtain ⟨its, rv, p, hz⟩ := I.list hq
    obtain ⟨f0, f1, f2, f3, f4, f5⟩ := hf it (by simp)
    have hl := rv.length
    exact wpAny_pyNext_list_end (I.ok.hd hc) st p.isList (by simp; omega) fun h' eb => ⟨rfl, I.turned (t' := s.toks) (fun b o hb e => eb b o hb e) f0 f1 f3 f4 f5⟩
  self := fun _ _ _ _ _ st h => wpAny_pyIter_listiter st h
theorem turn_range {P : Program} {w : World} {K : PySem.W.Frag} {tg : Expr} (it : Addr) (lo : Int) (n : Nat) : Turn P w K tg (Itr lo n) [it] it (fun i h => IsRangeIter h it (lo + (i : Nat) * 1) ((n : Int) - (i : Nat)) 1) where
  mem := by simp
  obj := fun i h st b hb => by
    have e : b = it := by simpa using hb
    subst e
    exact ⟨_, st, fun v z => by
      have z' : Data.fields _ = Data.cell v := z
      cases z'⟩
  keep := fun i h h' st k => k it (by simp) _ st
  item := by
    intro X hP hw hK hc i pins s σ H E I hf st hg
    subst hP hw hK
    obtain ⟨f0, f1, f2, f3, f4, f5⟩ := hf it (by simp)
    have W := Walks.range (prog := X.prog) (w := X.w) (I.ok.hd hc) it lo 1 n
    refine W.item i s _ _ hg st fun v h' tk hv st' kk => ?_
    obtain ⟨t, rfl⟩ := hv
    have I1 : Inv X pins σ H { s with heap := h', toks := tk } := I.turned (fun b o hb e => kk b o (by simpa using hb) e) f0 f1 f3 f4 f5
    refine ⟨_, rfl, go_of (s := { s with heap := h', toks := tk }) (n := "range_iterator") st' rfl rfl (by decide) ⟨.int (lo + i), H, I1, ⟨t, ?_⟩, ⟨rfl, rfl⟩, st', fun b hb => (hf b hb).1⟩⟩
    rw [Int.mul_one]
  done := by
    intro X hP hw hK hc i pins s σ H E I hf st hg
    subst hP hw hK
    obtain ⟨f0, f1, f2, f3, f4, f5⟩ := hf it (by simp)
    exact wpAny_pyNext_range_end (I.ok.hd hc) st (by have : n ≤ i := hg; omega) fun h' eb => ⟨rfl, I.turned (t' := s.toks) (fun b o hb e => eb b o hb e) f0 f1 f3 f4 f5⟩
  self := fun _ _ _ _ _ st h => wpAny_pyIter_rangeiter st h
end L2
namespace L2
open PySem PySem.Spec PyProof.Rows
section
variable {X : Cx} {tg : Expr}
def iList (K : PySem.W.Frag) (tl : TE) : TI := fun σ H R => tl σ H fun x H1 => ∃ a, x = .ref a ∧ (∃ xs, SqL K H1 a xs) ∧ R (Itl K a) H1
theorem pi_list {l : Expr} {tl : TE} (hl : PE X l tl) : PI X tg l (iList X.K tl) := by
  intro pins s σ H R I h
  refine thn (hl pins s σ H _ I h) fun v s1 ⟨x, H1, I1, r1, q1⟩ => ?_
  obtain ⟨a, e, ⟨xs, hq⟩, q⟩ := q1
  subst e
  cases r1
  obtain ⟨its, rv, p, hz⟩ := I1.list hq
  refine wpAny_pyIter_list p.isList ?_
  refine ⟨s1.heap.objs.size, [s1.heap.objs.size], _, _, H1, rfl, I1.kept (t' := s1.toks) fun b o e => Heap.get?_push_of_some _ e, turn_list a _, ⟨_, Heap.get?_push_size _ rfl, rfl, rfl⟩, fun b hb => ?_, q⟩
  have e : b = s1.heap.objs.size := by simpa using hb
  subst e
  exact I1.fpOk (Nat.le_refl _) (I1.hok.fresh (Nat.le_refl _))
theorem range_it {pins : List (Addr × Obj)} {σ : St} {H : Hp} {s : Shared} {R : It → Hp → Prop} {E : Value → Shared → Prop} {lo hi : Int} {t u v : Tok} {tk : Nat} (I : Inv X pins σ H s) (h1 : -(2 ^ 62) ≤ lo) (h2 : lo < 2 ^ 62) (h3 : -(2 ^ 62) ≤ hi) (h4 : hi < 2 ^ 62)
    (q : R (Itr lo (hi - lo).toNat) H) : wpAny (model X.prog X.w) X.A (pyIter (.ref s.heap.objs.size)) (PIE X pins σ tg R) E { s with heap := s.heap.push { cls := .type "range", data := .fields #[.int lo t, .int hi u, .int 1 v] }, toks := tk } := by
  refine wpAny_pyIter_range (IsRange.new ..) (small_one h1 h2 h3 h4) ?_
  have I1 : Inv X pins σ H { s with heap := s.heap.push { cls := .type "range", data := .fields #[.int lo t, .int hi u, .int 1 v] }, toks := tk } := I.kept fun b o e => Heap.get?_push_of_some _ e
  refine ⟨(s.heap.push { cls := .type "range", data := .fields #[.int lo t, .int hi u, .int 1 v] }).objs.size, [(s.heap.push { cls := .type "range", data := .fields #[.int lo t, .int hi u, .int 1 v] }).objs.size], _, _, H, rfl,
    I1.kept (t' := tk) fun b o e => Heap.get?_push_of_some _ e, turn_range _ lo (hi - lo).toNat, ?_, fun b hb => ?_, q⟩
  · have e1 : lo + ((0 : Nat) : Int) * 1 = lo := by simp
    have e2 : (((hi - lo).toNat : Nat) : Int) - ((0 : Nat) : Int) = Builtin.Range.rangeSize lo hi 1 := by rw [rangeSize_one]; split <;> omega
    show IsRangeIter _ _ (lo + ((0 : Nat) : Int) * 1) ((((hi - lo).toNat : Nat) : Int) - ((0 : Nat) : Int)) 1
    rw [e1, e2]
    exact Heap.get?_push_size _ rfl
  · have e : b = (s.heap.push { cls := .type "range", data := .fields #[.int lo t, .int hi u, .int 1 v] }).objs.size := by simpa using hb
    subst e
    exact I1.fpOk (Nat.le_refl _) (I1.hok.fresh (Nat.le_refl _))
def iRng1 (ta : TA) : TI := fun σ H R => ta σ H fun vs H1 => ∃ j : Int, vs = [.int j] ∧ -(2 ^ 62) ≤ j ∧ j < 2 ^ 62 ∧ R (Itr 0 j.toNat) H1
def iRng2 (ta : TA) : TI := fun σ H R => ta σ H fun vs H1 => ∃ i j : Int, vs = [.int i, .int j] ∧ (-(2 ^ 62) ≤ i ∧ i < 2 ^ 62 ∧ -(2 ^ 62) ≤ j ∧ j < 2 ^ 62) ∧ R (Itr i (j - i).toNat) H1
theorem pi_range1 {a : Expr} {ta : TA} {p pos : Pos} (hg : Gl X "range") (hm : X.mg "range" = none) (ha : PA X [a] ta) (hs : starEach [a] X.env = [(false, eval a X.env)] := by rfl) : PI X tg (.Call (.Name "range" p) [a] [] pos) (iRng1 ta) := by
  intro pins s σ H R I h
  refine Call_ (ld_blt I hg hm boot_range (PyProof.Rows.callWith_type1 (thn (ha pos pins s σ H _ I h) fun us s1 ⟨vs, H1, I1, r1, q1⟩ => ?_) hs rfl))
  obtain ⟨j, e, q1, q2, q⟩ := q1
  subst e
  cases r1 with
  | cons r rr =>
    cases rr
    obtain ⟨t, rfl⟩ := r
    exact call_range_1 (range_it I1 (by omega) (by omega) q1 q2 (by simpa using q))
theorem pi_range2 {a b : Expr} {ta : TA} {p pos : Pos} (hg : Gl X "range") (hm : X.mg "range" = none) (ha : PA X [a, b] ta) (hs : starEach [a, b] X.env = [(false, eval a X.env), (false, eval b X.env)] := by rfl) (hs2 : starEach [b] X.env = [(false, eval b X.env)] := by rfl) :
    PI X tg (.Call (.Name "range" p) [a, b] [] pos) (iRng2 ta) := by
  intro pins s σ H R I h
  refine Call_ (ld_blt I hg hm boot_range (PyProof.Rows.callWith_type1 (thn (ha pos pins s σ H _ I h) fun us s1 ⟨vs, H1, I1, r1, q1⟩ => ?_) (by rw [hs, hs2]) (by rw [hs2]; rfl)))
  obtain ⟨i, j, e, ⟨q1, q2, q3, q4⟩, q⟩ := q1
  subst e
  cases r1 with
  | cons r rr =>
    cases rr with
    | cons r' rr =>
      cases rr
      obtain ⟨t, rfl⟩ := r
      obtain ⟨t', rfl⟩ := r'
      exact call_range_2 (range_it I1 q1 q2 q3 q4 q)
def tFor (wi : TI) (g : TG) (tb : TS) : TS := fun D σ H => wi σ H fun J H1 => ∃ W : Nat → Nat → St → Hp → Prop, (∃ m, W 0 m σ H1) ∧ ∀ i m σ H, W i m σ H →
  (J.stop i H ∧ D.nx σ H) ∨ (J.go i H ∧ ∃ N : St → Hp → Prop, (∀ σ' H', N σ' H' → ∃ m', m' < m ∧ W (i + 1) m' σ' H') ∧ ∀ x H', J.yld i H x H' → g x σ H' fun σ2 H2 => tb { D with nx := N, ct := N, bk := D.nx } σ2 H2)
def pinsAt (fp : List Addr) (h : Heap) : List (Addr × Obj) := fp.filterMap fun b => (h.get? b).map fun o => (b, o)
theorem mem_pinsAt {fp : List Addr} {h : Heap} {b : Addr} {o : Obj} (hb : b ∈ fp) (e : h.get? b = some o) : (b, o) ∈ pinsAt fp h := List.mem_filterMap.mpr ⟨b, hb, by rw [e]; rfl⟩
theorem of_pinsAt {fp : List Addr} {h : Heap} {p : Addr × Obj} (hp : p ∈ pinsAt fp h) : p.1 ∈ fp ∧ h.get? p.1 = some p.2 := by
  obtain ⟨b, hb, e⟩ := List.mem_filterMap.mp hp
  cases q : h.get? b with
  | none => rw [q] at e; cases e
  | some o =>
    rw [q] at e
    have e' : (b, o) = p := Option.some.inj e
    subst e'
    exact ⟨hb, q⟩
theorem Inv.pinned {pins : List (Addr × Obj)} {σ : St} {H : Hp} {s : Shared} {fp : List Addr} (I : Inv X pins σ H s) (hf : ∀ b ∈ fp, FpOk X pins H b) (ho : ∀ b ∈ fp, ∃ o, s.heap.get? b = some o ∧ ∀ v, o.data ≠ .cell v) : Inv X (pins ++ pinsAt fp s.heap) σ H s :=
  I.pins_of fun p hp => (List.mem_append.mp hp).elim (fun z => I.pin p (List.mem_append_right _ z)) fun z => by
    obtain ⟨hb, e⟩ := of_pinsAt z
    obtain ⟨f0, f1, f2, _⟩ := hf p.1 hb
    obtain ⟨o, e', d⟩ := ho p.1 hb
    rw [e] at e'; cases e'
    exact ⟨e, f0, f1, f2, d⟩
theorem Inv.unpinned {pins pl : List (Addr × Obj)} {σ : St} {H : Hp} {s : Shared} (I : Inv X (pins ++ pl) σ H s) : Inv X pins σ H s := I.pins_of fun p hp => I.pin p (List.mem_append_right _ (List.mem_append_left _ hp))
theorem ps_for {iter : Expr} {body : List Stmt} {wi : TI} {g : TG} {tb : TS} {pos : Pos} (hp : PassesOwn (model X.prog X.w) X.A X.env X.xe) (hc : X.calm = true) (hi : PI X tg iter wi) (hg : PG X tg g) (hb : PSs X body tb)
    (hs : ∀ x, foldedSetIterable iter X.env x = pure x := by intro _; rfl) : PS X (.For tg iter body [] pos) (tFor wi g tb) := by
  intro pins s σ H D I h
  refine wpAny_For (thn (hi pins s σ H _ I h) fun v s1 h1 => thn h1 fun itv s2 h2 => ?_) hs
  obtain ⟨it, fp, tn, J, H2, e, I2, T, st2, f2, W, ⟨m0, w0⟩, turn⟩ := h2
  subst e
  have stat : ∀ {H' : Hp}, (∀ b ∈ fp, H' b = none) → ∀ b ∈ fp, FpOk X pins H' b := fun hn b hb => ⟨hn b hb, (f2 b hb).2⟩
  refine codeAny_forLoop_any (fun n s' => ∃ i σ' H', Inv X pins σ' H' s' ∧ tn i s'.heap ∧ (∀ b ∈ fp, H' b = none) ∧ W i n σ' H') ?_ m0 ⟨0, σ, H2, I2, st2, fun b hb => (f2 b hb).1, w0⟩
  rintro n s3 ⟨i, σ3, H3, I3, st3, fr3, w3⟩
  rcases turn i n σ3 H3 w3 with ⟨stop, qn⟩ | ⟨go, N, hN, step⟩
  · refine wpAny_passesOwn hp (thn (T.done X rfl rfl rfl hc i pins s3 σ3 H3 X.xe I3 (stat fr3) st3 stop) fun r s4 ⟨hr, I4⟩ => ?_)
    subst hr
    exact wpAny_execs_nil ⟨σ3, H3, I4, qn⟩
  · refine wpAny_passesOwn hp (thn (T.item X rfl rfl rfl hc i pins s3 σ3 H3 X.xe I3 (stat fr3) st3 go) fun r s4 ⟨u, hr, h4⟩ => ?_)
    subst hr
    refine wpAny_passesOwn hp (thn h4 fun _ s5 ⟨x, H5, I5, r5, y5, st5, fr5⟩ => ?_)
    have I5' := I5.pinned (stat fr5) (T.obj _ _ st5)
    refine wpAny_passesOwn hp (thn (hg _ s5 σ3 H5 x u _ I5' r5 (step x H5 y5)) fun _ s6 ⟨σ6, H6, I6, q6⟩ => ?_)
    refine wpAny_passesOwn hp (thn (hb _ s6 σ6 H6 _ I6 q6) fun f s7 q7 => ?_)
    have again : ∀ {σ7 : St} {H7 : Hp}, Inv X (pins ++ pinsAt fp s5.heap) σ7 H7 s7 → N σ7 H7 → ∃ m, m < n ∧ ∃ i σ' H', Inv X pins σ' H' s7 ∧ tn i s7.heap ∧ (∀ b ∈ fp, H' b = none) ∧ W i m σ' H' := fun {σ7 H7} I7 n7 => by
      obtain ⟨m', hm, w7⟩ := hN σ7 H7 n7
      refine ⟨m', hm, i + 1, σ7, H7, I7.unpinned, T.keep _ _ _ st5 fun b hb o e => (I7.pin (b, o) (List.mem_append_right _ (List.mem_append_right _ (mem_pinsAt hb e)))).1, fun b hb => ?_, w7⟩
      obtain ⟨o, e, d⟩ := T.obj _ _ st5 b hb
      exact (I7.pin (b, o) (List.mem_append_right _ (List.mem_append_right _ (mem_pinsAt hb e)))).2.1
    cases f with
    | next => obtain ⟨σ7, H7, I7, n7⟩ := q7; exact again I7 n7
    | cont => obtain ⟨σ7, H7, I7, n7⟩ := q7; exact again I7 n7
    | brk => obtain ⟨σ7, H7, I7, q7⟩ := q7; exact ⟨σ7, H7, I7.unpinned, q7⟩
    | ret v => obtain ⟨x7, σ7, H7, I7, r7, q7⟩ := q7; exact ⟨x7, σ7, H7, I7.unpinned, r7, q7⟩
end
theorem for_list {K : PySem.W.Frag} {a : Addr} {xs : List V} {g : TG} {tb : TS} {D : Ends} {σ : St} {H : Hp} (Pv : Nat → St → Hp → Prop) (h0 : Pv 0 σ H) (hl : ∀ i σ H, i ≤ xs.length → Pv i σ H → SqL K H a xs)
    (hs : ∀ i x σ H, xs[i]? = some x → Pv i σ H → g x σ H fun σ2 H2 => tb { D with nx := Pv (i + 1), ct := Pv (i + 1), bk := D.nx } σ2 H2) (hd : ∀ σ H, Pv xs.length σ H → D.nx σ H) :
    ∃ W : Nat → Nat → St → Hp → Prop, (∃ m, W 0 m σ H) ∧ ∀ i m σ H, W i m σ H →
      ((Itl K a).stop i H ∧ D.nx σ H) ∨ ((Itl K a).go i H ∧ ∃ N : St → Hp → Prop, (∀ σ' H', N σ' H' → ∃ m', m' < m ∧ W (i + 1) m' σ' H') ∧ ∀ x H', (Itl K a).yld i H x H' → g x σ H' fun σ2 H2 => tb { D with nx := N, ct := N, bk := D.nx } σ2 H2) := by
  refine ⟨fun i m σ H => m = xs.length - i ∧ i ≤ xs.length ∧ Pv i σ H, ⟨xs.length, by simp, Nat.zero_le _, h0⟩, ?_⟩
  rintro i m σ H ⟨rfl, hi, p⟩
  have q := hl i σ H hi p
  by_cases hlt : i < xs.length
  · refine .inr ⟨⟨xs, xs[i], q, by simp [hlt]⟩, Pv (i + 1), fun σ' H' p' => ⟨xs.length - (i + 1), by omega, rfl, hlt, p'⟩, fun x H' y => ?_⟩
    obtain ⟨e, y⟩ := y
    subst e
    exact hs i x σ _ (y xs q) p
  · have e : i = xs.length := by omega
    subst e
    exact .inl ⟨⟨xs, q, Nat.le_refl _⟩, hd σ H p⟩
theorem for_range {lo : Int} {n : Nat} {g : TG} {tb : TS} {D : Ends} {σ : St} {H : Hp} (Pv : Nat → St → Hp → Prop) (h0 : Pv 0 σ H)
    (hs : ∀ i σ H, i < n → Pv i σ H → g (.int (lo + i)) σ H fun σ2 H2 => tb { D with nx := Pv (i + 1), ct := Pv (i + 1), bk := D.nx } σ2 H2) (hd : ∀ σ H, Pv n σ H → D.nx σ H) :
    ∃ W : Nat → Nat → St → Hp → Prop, (∃ m, W 0 m σ H) ∧ ∀ i m σ H, W i m σ H →
      ((Itr lo n).stop i H ∧ D.nx σ H) ∨ ((Itr lo n).go i H ∧ ∃ N : St → Hp → Prop, (∀ σ' H', N σ' H' → ∃ m', m' < m ∧ W (i + 1) m' σ' H') ∧ ∀ x H', (Itr lo n).yld i H x H' → g x σ H' fun σ2 H2 => tb { D with nx := N, ct := N, bk := D.nx } σ2 H2) := by
  refine ⟨fun i m σ H => m = n - i ∧ i ≤ n ∧ Pv i σ H, ⟨n, by simp, Nat.zero_le _, h0⟩, ?_⟩
  rintro i m σ H ⟨rfl, hi, p⟩
  by_cases hlt : i < n
  · refine .inr ⟨hlt, Pv (i + 1), fun σ' H' p' => ⟨n - (i + 1), by omega, rfl, hlt, p'⟩, fun x H' y => ?_⟩
    obtain ⟨e, y⟩ := y
    subst e y
    exact hs i σ _ hlt p
  · have e : i = n := by omega
    subst e
    exact .inl ⟨Nat.le_refl _, hd σ H p⟩
theorem while_by {c : TT} {tb : TS} {D : Ends} {σ : St} {H : Hp} (Pv : St → Hp → Prop) (μ : St → Hp → Nat) (h0 : Pv σ H)
    (hs : ∀ σ H, Pv σ H → c σ H fun b H1 => if b = true then tb { D with nx := fun σ' H' => Pv σ' H' ∧ μ σ' H' < μ σ H, ct := fun σ' H' => Pv σ' H' ∧ μ σ' H' < μ σ H, bk := D.nx } σ H1 else D.nx σ H1)
    (mono : ∀ σ H Q Q', (∀ b H1, Q b H1 → Q' b H1) → c σ H Q → c σ H Q') : tWhile c tb D σ H := by
  refine ⟨fun m σ H => m = μ σ H ∧ Pv σ H, ⟨_, rfl, h0⟩, ?_⟩
  rintro m σ H ⟨rfl, p⟩
  refine mono σ H _ _ (fun b H1 q => ?_) (hs σ H p)
  cases b with
  | true => exact ⟨_, fun σ' H' ⟨p', l⟩ => ⟨_, l, rfl, p'⟩, q⟩
  | false => exact q
end L2
namespace L2
open PySem PySem.Spec PyProof.Rows
abbrev R2 := V → V → Hp → VK → Prop
def OpR (X : Cx) (f : Value → Value → Sem Value) (r : R2) : Prop :=
  ∀ (pins : List (Addr × Obj)) (s : Shared) (σ : St) (H : Hp) (x y : V) (v u : Value) (Q : VK), Inv X pins σ H s → RelV x v → RelV y u → r x y H Q →
    wpAny (model X.prog X.w) X.A (f v u) (EP X pins σ Q) X.xe s
def UnR (X : Cx) (f : Value → Sem Value) (r : V → Hp → VK → Prop) : Prop :=
  ∀ (pins : List (Addr × Obj)) (s : Shared) (σ : St) (H : Hp) (x : V) (v : Value) (Q : VK), Inv X pins σ H s → RelV x v → r x H Q →
    wpAny (model X.prog X.w) X.A (f v) (EP X pins σ Q) X.xe s
def CallR (X : Cx) (f : Value) (r : List V → Hp → VK → Prop) : Prop :=
  ∀ (pins : List (Addr × Obj)) (s : Shared) (σ : St) (H : Hp) (xs : List V) (us : List Value) (Q : VK), Inv X pins σ H s → Vals xs us → r xs H Q →
    wpAny (model X.prog X.w) X.A (call f us) (EP X pins σ Q) X.xe s
def tOp (r : R2) (ta tb : TE) : TE := fun σ H Q => ta σ H fun x H1 => tb σ H1 fun y H2 => r x y H2 Q
def tUn (r : V → Hp → VK → Prop) (ta : TE) : TE := fun σ H Q => ta σ H fun x H1 => r x H1 Q
def rI (C : Int → Int → Prop) (g : Int → Int → V) : R2 := fun x y H Q => ∃ i j, x = .int i ∧ y = .int j ∧ C i j ∧ Q (g i j) H
def rI0 (g : Int → Int → V) : R2 := fun x y H Q => ∃ i j, x = .int i ∧ y = .int j ∧ Q (g i j) H
def rU (g : Int → V) : V → Hp → VK → Prop := fun x H Q => ∃ i, x = .int i ∧ Q (g i) H
section
variable {X : Cx} {a b c : Expr} {ta tb tc : TE} {pos : Pos}
theorem binT (ha : PE X a ta) (hb : PE X b tb) {pins : List (Addr × Obj)} {s : Shared} {σ : St} {H : Hp} {R : V → V → Hp → Prop} (I : Inv X pins σ H s)
    (h : ta σ H fun x H1 => tb σ H1 fun y H2 => R x y H2) {Q : Value → Shared → Prop} {f : Value → Value → Sem Value}
    (hf : ∀ v u s2 x y H2, Inv X pins σ H2 s2 → RelV x v → RelV y u → R x y H2 → wpAny (model X.prog X.w) X.A (f v u) Q X.xe s2) :
    wpAny (model X.prog X.w) X.A (eval a X.env) (fun v s₁ => wpAny (model X.prog X.w) X.A (eval b X.env) (fun u s₂ => wpAny (model X.prog X.w) X.A (f v u) Q X.xe s₂) X.xe s₁) X.xe s := by
  refine thn (ha pins s σ H _ I h) fun v s1 ⟨x, H1, I1, r1, q1⟩ => ?_
  refine thn (hb pins s1 σ H1 _ I1 q1) fun u s2 ⟨y, H2, I2, r2, q2⟩ => ?_
  exact hf v u s2 x y H2 I2 r1 r2 q2
theorem pe_op {op : Operator} {r : R2} (ho : OpR X (binaryOp op) r) (ha : PE X a ta) (hb : PE X b tb) : PE X (.BinOp a op b pos) (tOp r ta tb) := by
  intro pins s σ H Q I h
  exact wpAny_BinOp (binT ha hb I h fun v u s2 x y H2 I2 rx ry q => ho pins s2 σ H2 x y v u Q I2 rx ry q)
theorem pe_un {op : UnaryOp} {r : V → Hp → VK → Prop} (ho : UnR X (unaryOp op) r) (ha : PE X a ta) : PE X (.UnaryOp op a pos) (tUn r ta) := by
  intro pins s σ H Q I h
  exact UnaryOp_ (thn (ha pins s σ H _ I h) fun v s1 ⟨x, H1, I1, r1, q1⟩ => ho pins s1 σ H1 x v Q I1 r1 q1)
theorem opI {f : Value → Value → Sem Value} {C : Int → Int → Prop} {g : Int → Int → Int}
    (rule : ∀ (i j : Int) (t u : Tok) (s : Shared) (Q : Value → Shared → Prop) (E : Value → Shared → Prop), C i j → Q (.int (g i j) s.toks) { s with toks := s.toks + 1 } → wpAny (model X.prog X.w) X.A (f (.int i t) (.int j u)) Q E s) :
    OpR X f (rI C fun i j => .int (g i j)) := by
  intro pins s σ H x y v u Q I rx ry h
  obtain ⟨i, j, rfl, rfl, hc, q⟩ := h
  obtain ⟨t, rfl⟩ := rx
  obtain ⟨t', rfl⟩ := ry
  exact rule i j t t' s _ _ hc ⟨.int (g i j), H, I.tok _, ⟨_, rfl⟩, q⟩
theorem opI0 {f : Value → Value → Sem Value} {g : Int → Int → Int}
    (rule : ∀ (i j : Int) (t u : Tok) (s : Shared) (Q : Value → Shared → Prop) (E : Value → Shared → Prop), Q (.int (g i j) s.toks) { s with toks := s.toks + 1 } → wpAny (model X.prog X.w) X.A (f (.int i t) (.int j u)) Q E s) :
    OpR X f (rI0 fun i j => .int (g i j)) := by
  intro pins s σ H x y v u Q I rx ry h
  obtain ⟨i, j, rfl, rfl, q⟩ := h
  obtain ⟨t, rfl⟩ := rx
  obtain ⟨t', rfl⟩ := ry
  exact rule i j t t' s _ _ ⟨.int (g i j), H, I.tok _, ⟨_, rfl⟩, q⟩
theorem opB0 {f : Value → Value → Sem Value} {g : Int → Int → Bool}
    (rule : ∀ (i j : Int) (t u : Tok) (s : Shared) (Q : Value → Shared → Prop) (E : Value → Shared → Prop), Q (.bool (g i j)) s → wpAny (model X.prog X.w) X.A (f (.int i t) (.int j u)) Q E s) :
    OpR X f (rI0 fun i j => .bl (g i j)) := by
  intro pins s σ H x y v u Q I rx ry h
  obtain ⟨i, j, rfl, rfl, q⟩ := h
  obtain ⟨t, rfl⟩ := rx
  obtain ⟨t', rfl⟩ := ry
  exact rule i j t t' s _ _ ⟨.bl (g i j), H, I, rfl, q⟩
def CMul (i j : Int) : Prop := (-(2 ^ 64) < i ∧ i < 2 ^ 64) ∨ (-(2 ^ 64) < j ∧ j < 2 ^ 64)
theorem CMul.ok {i j : Int} (h : CMul i j) : IntMulOk i j := by
  rcases h with ⟨h1, h2⟩ | ⟨h1, h2⟩
  · exact .of_left (intBits_le_64 h1 h2)
  · exact .of_right (intBits_le_64 h1 h2)
theorem op_add : OpR X (binaryOp .Add) (rI0 fun i j => .int (i + j)) := opI0 fun _ _ _ _ _ _ _ q => add_int q
theorem op_sub : OpR X (binaryOp .Sub) (rI0 fun i j => .int (i - j)) := opI0 fun _ _ _ _ _ _ _ q => sub_int q
theorem op_mul : OpR X (binaryOp .Mult) (rI CMul fun i j => .int (i * j)) := opI fun _ _ _ _ _ _ _ hc q => mul_int q hc.ok
theorem unI {f : Value → Sem Value} {g : Int → Int}
    (rule : ∀ (i : Int) (t : Tok) (s : Shared) (Q : Value → Shared → Prop) (E : Value → Shared → Prop), Q (.int (g i) s.toks) { s with toks := s.toks + 1 } → wpAny (model X.prog X.w) X.A (f (.int i t)) Q E s) :
    UnR X f (rU fun i => .int (g i)) := by
  intro pins s σ H x v Q I rx h
  obtain ⟨i, rfl, q⟩ := h
  obtain ⟨t, rfl⟩ := rx
  exact rule i t s _ _ ⟨.int (g i), H, I.tok _, ⟨_, rfl⟩, q⟩
theorem un_neg : UnR X (unaryOp .USub) (rU fun i => .int (-i)) := unI fun _ _ _ _ _ q => neg_int q
end
def scal : V → V → Bool
  | .non, .non => true | .non, .int _ => true | .int _, .non => true | .non, .bl _ => true | .bl _, .non => true | .non, .str _ => true | .str _, .non => true
  | .int _, .int _ => true | .bl _, .bl _ => true | .str _, .str _ => true | .byt _, .byt _ => true
  | .int _, .str _ => true | .str _, .int _ => true | .bl _, .str _ => true | .str _, .bl _ => true
  | _, _ => false
def rEq : R2 := fun x y H Q => scal x y = true ∧ Q (.bl (decide (x = y))) H
def rNe : R2 := fun x y H Q => scal x y = true ∧ Q (.bl (!decide (x = y))) H
theorem dec_int {i j : Int} : decide (V.int i = V.int j) = (i == j) := by
  rw [Bool.eq_iff_iff]
  simp
theorem dec_bl {i j : Bool} : decide (V.bl i = V.bl j) = (i == j) := by
  rw [Bool.eq_iff_iff]
  simp
theorem dec_str {i j : Str} : decide (V.str i = V.str j) = (i == j) := by
  rw [Bool.eq_iff_iff]
  simp
theorem dec_byt {i j : Array UInt8} : decide (V.byt i = V.byt j) = (i.toList == j.toList) := by
  rw [Bool.eq_iff_iff]
  cases i
  cases j
  simp
section
variable {X : Cx} {a b c : Expr} {ta tb tc : TE} {pos : Pos}
theorem fin_bl {pins : List (Addr × Obj)} {σ : St} {H : Hp} {s : Shared} {Q : VK} {k k' : Bool} (I : Inv X pins σ H s) (q : Q (.bl k) H) (e : k = k') : EP X pins σ Q (.bool k') s := by
  subst e
  exact ⟨.bl k, H, I, rfl, q⟩
theorem op_eq : OpR X (compareOp .Eq) rEq := by
  intro pins s σ H x y v u Q I rx ry h
  obtain ⟨hs, q⟩ := h
  cases x with
  | non =>
    cases rx
    cases y with
    | non => cases ry; exact PySem.EqNone.eq_none_none (fin_bl I q (by simp))
    | bl j => cases ry; exact PySem.EqNone.eq_none_bool (fin_bl I q (by simp))
    | int j => obtain ⟨t', rfl⟩ := ry; exact PySem.EqNone.eq_none_int (fin_bl I q (by simp))
    | str j => obtain ⟨t', rfl⟩ := ry; exact PySem.EqNone.eq_none_str (fin_bl I q (by simp))
    | _ => exact absurd (show false = true from hs) Bool.false_ne_true
  | bl i =>
    cases rx
    cases y with
    | non => cases ry; exact PySem.EqNone.eq_bool_none (fin_bl I q (by simp))
    | bl j => cases ry; exact eq_bool (fin_bl I q dec_bl)
    | str j => obtain ⟨t', rfl⟩ := ry; exact PySem.EqMixed.eq_bool_str (fin_bl I q (by simp))
    | _ => exact absurd (show false = true from hs) Bool.false_ne_true
  | int i =>
    obtain ⟨t, rfl⟩ := rx
    cases y with
    | non => cases ry; exact PySem.EqNone.eq_int_none (fin_bl I q (by simp))
    | int j => obtain ⟨t', rfl⟩ := ry; exact eq_int (fin_bl I q dec_int)
    | str j => obtain ⟨t', rfl⟩ := ry; exact PySem.EqMixed.eq_int_str (fin_bl I q (by simp))
    | _ => exact absurd (show false = true from hs) Bool.false_ne_true
  | str i =>
    obtain ⟨t, rfl⟩ := rx
    cases y with
    | non => cases ry; exact PySem.EqNone.eq_str_none (fin_bl I q (by simp))
    | bl j => cases ry; exact PySem.EqMixed.eq_str_bool (fin_bl I q (by simp))
    | int j => obtain ⟨t', rfl⟩ := ry; exact PySem.EqMixed.eq_str_int (fin_bl I q (by simp))
    | str j => obtain ⟨t', rfl⟩ := ry; exact eq_str (fin_bl I q dec_str)
    | _ => exact absurd (show false = true from hs) Bool.false_ne_true
  | byt i =>
    obtain ⟨t, rfl⟩ := rx
    cases y with
    | byt j => obtain ⟨t', rfl⟩ := ry; exact PySem.W.eq_bytes (fin_bl I q dec_byt)
    | _ => exact absurd (show false = true from hs) Bool.false_ne_true
  | _ => cases y <;> exact absurd (show false = true from hs) Bool.false_ne_true
theorem op_ne : OpR X (compareOp .NotEq) rNe := by
  intro pins s σ H x y v u Q I rx ry h
  obtain ⟨hs, q⟩ := h
  cases x with
  | non =>
    cases rx
    cases y with
    | non => cases ry; exact PySem.EqNone.ne_none_none (fin_bl I q (by simp))
    | bl j => cases ry; exact PySem.EqNone.ne_none_bool (fin_bl I q (by simp))
    | int j => obtain ⟨t', rfl⟩ := ry; exact PySem.EqNone.ne_none_int (fin_bl I q (by simp))
    | str j => obtain ⟨t', rfl⟩ := ry; exact PySem.EqNone.ne_none_str (fin_bl I q (by simp))
    | _ => exact absurd (show false = true from hs) Bool.false_ne_true
  | bl i =>
    cases rx
    cases y with
    | non => cases ry; exact PySem.EqNone.ne_bool_none (fin_bl I q (by simp))
    | bl j => cases ry; exact ne_bool (fin_bl I q (congrArg not dec_bl))
    | str j => obtain ⟨t', rfl⟩ := ry; exact PySem.EqMixed.ne_bool_str (fin_bl I q (by simp))
    | _ => exact absurd (show false = true from hs) Bool.false_ne_true
  | int i =>
    obtain ⟨t, rfl⟩ := rx
    cases y with
    | non => cases ry; exact PySem.EqNone.ne_int_none (fin_bl I q (by simp))
    | int j => obtain ⟨t', rfl⟩ := ry; exact ne_int (fin_bl I q (congrArg not dec_int))
    | str j => obtain ⟨t', rfl⟩ := ry; exact PySem.EqMixed.ne_int_str (fin_bl I q (by simp))
    | _ => exact absurd (show false = true from hs) Bool.false_ne_true
  | str i =>
    obtain ⟨t, rfl⟩ := rx
    cases y with
    | non => cases ry; exact PySem.EqNone.ne_str_none (fin_bl I q (by simp))
    | bl j => cases ry; exact PySem.EqMixed.ne_str_bool (fin_bl I q (by simp))
    | int j => obtain ⟨t', rfl⟩ := ry; exact PySem.EqMixed.ne_str_int (fin_bl I q (by simp))
    | str j => obtain ⟨t', rfl⟩ := ry; exact ne_str (fin_bl I q (congrArg not dec_str))
    | _ => exact absurd (show false = true from hs) Bool.false_ne_true
  | byt i =>
    obtain ⟨t, rfl⟩ := rx
    cases y with
    | byt j => obtain ⟨t', rfl⟩ := ry; exact PySem.W.ne_bytes (fin_bl I q (congrArg not dec_byt))
    | _ => exact absurd (show false = true from hs) Bool.false_ne_true
  | _ => cases y <;> exact absurd (show false = true from hs) Bool.false_ne_true
theorem op_lt : OpR X (compareOp .Lt) (rI0 fun i j => .bl (decide (i < j))) := opB0 fun _ _ _ _ _ _ _ q => lt_int q
theorem op_le : OpR X (compareOp .LtE) (rI0 fun i j => .bl (decide (i ≤ j))) := opB0 fun _ _ _ _ _ _ _ q => le_int q
theorem op_gt : OpR X (compareOp .Gt) (rI0 fun i j => .bl (decide (j < i))) := opB0 fun _ _ _ _ _ _ _ q => gt_int q
theorem op_ge : OpR X (compareOp .GtE) (rI0 fun i j => .bl (decide (j ≤ i))) := opB0 fun _ _ _ _ _ _ _ q => ge_int q
theorem nomark (b : Expr) {op : CmpOp} (h : op ≠ .In := by decide) (h2 : op ≠ .NotIn := by decide) : behindInMarks op b = false := by
  have e1 : (op == CmpOp.In) = false := by cases op <;> first | rfl | exact absurd rfl h
  have e2 : (op == CmpOp.NotIn) = false := by cases op <;> first | rfl | exact absurd rfl h2
  cases b <;> simp [behindInMarks, e1, e2]
theorem pe_cmpR {op : CmpOp} {r : R2} (ho : OpR X (compareOp op) r) (ha : PE X a ta) (hb : PE X b tb) (hm : behindInMarks op b = false) : PE X (.Compare a [op] [b] pos) (tOp r ta tb) := by
  intro pins s σ H Q I h
  exact wpAny_Compare1 (binT ha hb I h fun v u s2 x y H2 I2 rx ry q => ho pins s2 σ H2 x y v u Q I2 rx ry q) hm
def tTest (t : TE) : TT := fun σ H Q => t σ H fun x H' => ∃ k, x = .bl k ∧ Q k H'
theorem pt_cmpR {op : CmpOp} {r : R2} (ho : OpR X (compareOp op) r) (ha : PE X a ta) (hb : PE X b tb) (hm : behindInMarks op b = false) : PT X (.Compare a [op] [b] pos) (tTest (tOp r ta tb)) := by
  intro pins s σ H Q I h
  refine wpAny_isTrue_Compare1 (thn (ha pins s σ H _ I h) fun v s1 ⟨x, H1, I1, r1, q1⟩ => thn (hb pins s1 σ H1 _ I1 q1) fun u s2 ⟨y, H2, I2, r2, q2⟩ =>
    thn (ho pins s2 σ H2 x y v u _ I2 r1 r2 q2) fun c s3 ⟨z, H3, I3, r3, k, e, q3⟩ => ?_) hm
  subst e
  cases r3
  exact wpAny_truthy_bool ⟨H3, I3, q3⟩
def tChain (r r' : R2) (ta tb tc : TE) : TE := fun σ H Q => ta σ H fun x H1 => tb σ H1 fun y H2 => r x y H2 fun z H3 => ∃ k, z = .bl k ∧
  (if k = true then tc σ H3 fun w' H4 => r' y w' H4 Q else Q (.bl false) H3)
theorem pe_chain {op op' : CmpOp} {r r' : R2} (ho : OpR X (compareOp op) r) (ho' : OpR X (compareOp op') r') (ha : PE X a ta) (hb : PE X b tb) (hc : PE X c tc)
    (hm : lastMarks [op, op'] [b, c] = false := by with_unfolding_all rfl) : PE X (.Compare a [op, op'] [b, c] pos) (tChain r r' ta tb tc) := by
  intro pins s σ H Q I h
  refine Compare_chain (thn (ha pins s σ H _ I h) fun v s1 ⟨x, H1, I1, r1, q1⟩ => chain_link (thn (hb pins s1 σ H1 _ I1 q1) fun u s2 ⟨y, H2, I2, r2, q2⟩ =>
    thn (ho pins s2 σ H2 x y v u _ I2 r1 r2 q2) fun d s3 ⟨z, H3, I3, r3, k, e, q3⟩ => ?_)) hm
  subst e
  cases r3
  refine wpAny_truthy_bool ?_
  cases k with
  | false => exact ite_ff ⟨.bl false, H3, I3, rfl, q3⟩
  | true => exact ite_tt (chain_last (thn (hc pins s3 σ H3 _ I3 q3) fun w' s4 ⟨z', H4, I4, r4, q4⟩ => ho' pins s4 σ H4 y z' u w' Q I4 r2 r4 q4))
theorem pt_chain {op op' : CmpOp} {r r' : R2} (ho : OpR X (compareOp op) r) (ho' : OpR X (compareOp op') r') (ha : PE X a ta) (hb : PE X b tb) (hc : PE X c tc)
    (hm : lastMarks [op, op'] [b, c] = false := by with_unfolding_all rfl) : PT X (.Compare a [op, op'] [b, c] pos) (tTest (tChain r r' ta tb tc)) := by
  intro pins s σ H Q I h
  refine isTrue_chain (thn (ha pins s σ H _ I h) fun v s1 ⟨x, H1, I1, r1, q1⟩ => test_link (thn (hb pins s1 σ H1 _ I1 q1) fun u s2 ⟨y, H2, I2, r2, q2⟩ =>
    thn (ho pins s2 σ H2 x y v u _ I2 r1 r2 q2) fun d s3 ⟨z, H3, I3, r3, k, e, q3⟩ => ?_)) hm
  subst e
  cases r3
  refine wpAny_truthy_bool ?_
  cases k with
  | false =>
    obtain ⟨k', e', q'⟩ := q3
    cases e'
    exact ite_ff ⟨H3, I3, q'⟩
  | true =>
    refine ite_tt (test_last (thn (hc pins s3 σ H3 _ I3 q3) fun w' s4 ⟨z', H4, I4, r4, q4⟩ => thn (ho' pins s4 σ H4 y z' u w' _ I4 r2 r4 q4) fun d' s5 ⟨z2, H5, I5, r5, k2, e2, q5⟩ => ?_))
    subst e2
    cases r5
    exact wpAny_truthy_bool ⟨H5, I5, q5⟩
theorem line63 : (sizeLine : Nat) < 2 ^ 63 := by rw [sizeLine_eq]; decide
theorem vals1 {x : V} {us : List Value} (r : Vals [x] us) : ∃ u, us = [u] ∧ RelV x u := by
  cases r with
  | cons r1 r2 => cases r2; exact ⟨_, rfl, r1⟩
theorem vals2 {x y : V} {us : List Value} (r : Vals [x, y] us) : ∃ u w', us = [u, w'] ∧ RelV x u ∧ RelV y w' := by
  cases r with
  | cons r1 r2 =>
    cases r2 with
    | cons r3 r4 => cases r4; exact ⟨_, _, rfl, r1, r3⟩
theorem call_abs : CallR X (.builtin "abs") (fun xs H Q => ∃ i, xs = [.int i] ∧ Q (.int (if i < 0 then -i else i)) H) := by
  intro pins s σ H xs us Q I r h
  obtain ⟨i, rfl, q⟩ := h
  obtain ⟨u, rfl, t, rfl⟩ := vals1 r
  exact call_abs_int fun u tk => ⟨.int (if i < 0 then -i else i), H, I.tok _, ⟨_, rfl⟩, q⟩
theorem call_max2 (hc : X.calm = true) : CallR X (.builtin "max") (fun xs H Q => ∃ i j, xs = [.int i, .int j] ∧ Q (.int (if j > i then j else i)) H) := by
  intro pins s σ H xs us Q I r h
  obtain ⟨i, j, rfl, q⟩ := h
  obtain ⟨u, w', rfl, ⟨t, rfl⟩, ⟨t', rfl⟩⟩ := vals2 r
  refine max_two_ints (I.ok.hd hc) fun h' tk k => ⟨_, H, I.kept k, ?_, q⟩
  by_cases hj : j > i
  · rw [if_pos hj, if_pos hj]; exact ⟨_, rfl⟩
  · rw [if_neg hj, if_neg hj]; exact ⟨_, rfl⟩
theorem call_min2 (hc : X.calm = true) : CallR X (.builtin "min") (fun xs H Q => ∃ i j, xs = [.int i, .int j] ∧ Q (.int (if j < i then j else i)) H) := by
  intro pins s σ H xs us Q I r h
  obtain ⟨i, j, rfl, q⟩ := h
  obtain ⟨u, w', rfl, ⟨t, rfl⟩, ⟨t', rfl⟩⟩ := vals2 r
  refine min_two_ints (I.ok.hd hc) fun h' tk k => ⟨_, H, I.kept k, ?_, q⟩
  by_cases hj : j < i
  · rw [if_pos hj, if_pos hj]; exact ⟨_, rfl⟩
  · rw [if_neg hj, if_neg hj]; exact ⟨_, rfl⟩
end
end L2
namespace L2
open PySem PySem.Spec PyProof.Rows
structure ObjM (h : Heap) (x dx C : Addr) (mA : Str → Option Value) : Prop where
  obj : h.get? x = some (PySem.W.instObj C dx)
  ns : h.Ns1 dx mA
  ne : dx ≠ x
theorem lookIn_ns {h : Heap} {dx : Addr} {mA : Str → Option Value} (n : h.Ns1 dx mA) : ∃ od, h.get? dx = some od ∧ ∀ name, PySem.W.lookIn name od = some (mA name) := by
  obtain ⟨o, es, ep, ho, hd, hk, _, hm⟩ := n
  refine ⟨o, ho, fun name => ?_⟩
  have e := hm name
  unfold nsFind findBy at e
  rw [← Array.find?_toList] at e
  unfold PySem.W.lookIn
  rw [hd]
  dsimp only
  split
  · rename_i y q
    rw [q] at e
    exact congrArg some e
  · rename_i q
    rw [q] at e
    have a : es.toList.any (·.refKey) = false := by
      rw [List.any_eq_false]
      intro y hy
      obtain ⟨z, t, hkey⟩ := hk y (Array.mem_toList_iff.mp hy)
      simp [DictEntry.refKey, hkey]
    have a' : ¬ es.toList.any (·.refKey) = true := by rw [a]; exact Bool.false_ne_true
    rw [if_neg a']
    exact congrArg some e
theorem ObjM.look {h : Heap} {x dx C : Addr} {mA : Str → Option Value} (I : ObjM h x dx C mA) : ∃ od, PySem.W.InstAt h x (PySem.W.instObj C dx) C (some od) ∧ ∀ name, PySem.W.lookIn name od = some (mA name) :=
  let ⟨od, ho, hl⟩ := lookIn_ns I.ns
  ⟨od, ⟨I.obj, rfl, rfl, ho⟩, hl⟩
section
variable {prog : Program} {w : World} {A : Around} {E : Value → Shared → Prop} {s : Shared} {K : PySem.W.Frag} {x dx C f : Addr} {mA : Str → Option Value} {name : Str} {v : Value}
theorem get_map {expr : Bool} {Q : Value → Shared → Prop} (X : K.In s.heap) (I : ObjM s.heap x dx C mA) (hg : PySem.W.plainGet K C name = true) (hh : PySem.W.hasDictIn K C = true)
    (ha : PySem.W.findIn K (.ref C) name = some none) (hv : mA name = some v) (hv' : PySem.W.handedIn v = true) (h : Q v { s with toks := s.toks + 1 }) :
    wpAny (model prog w) A (getAttr (.ref x) name expr) Q E s := by
  obtain ⟨od, J, hl⟩ := I.look
  exact PySem.W.get_value X J (PySem.W.plainGet_of hg).1 (PySem.W.findObj_own hh ha rfl (by rw [hl, hv])) hv' h
theorem get_meth {pl : Sem Bool} {Q : Value × List Value → Shared → Prop} (X : K.In s.heap) (I : ObjM s.heap x dx C mA) (hg : PySem.W.plainGet K C name = true)
    (hf : PySem.W.findIn K (.ref C) name = some (some (.ref f))) (ht : PySem.W.isFn K (.ref f) = true) (hv : mA name = none) (h : Q (.ref f, [.ref x]) s) :
    wpAny (model prog w) A (getMethod (.ref x) name pl) Q E s := by
  obtain ⟨od, J, hl⟩ := I.look
  exact PySem.W.method_fn X J (PySem.W.plainGet_of hg).1 (PySem.W.plainGet_of hg).2 hf (beq_iff_eq.mp ht) (by show (PySem.W.lookIn name od).map (·.isSome) = some false; rw [hl, hv]; rfl) h
theorem set_map {ns : List Str} {Q : Unit → Shared → Prop} (X : K.In s.heap) (I : ObjM s.heap x dx C mA)
    (hs : PySem.W.findIn K (.ref C) "__setattr__" = some (some (.builtin "object.__setattr__"))) (hp : PySem.W.plainOver K C = true) (ht : PySem.W.takerIn K C name = some none) (hh : PySem.W.hasDictIn K C = true)
    (hw : PySem.Within mA ns) (hsz : ns.length ≤ sizeLine)
    (h : ∀ h', ObjM h' x dx C (fun y => if y = name then some v else mA y) → Heap.SameBut dx s.heap h' → Q () { s with heap := h', toks := s.toks + 2 }) :
    wpAny (model prog w) A (setAttr (.ref x) name v) Q E s := by
  obtain ⟨od, J, hl⟩ := I.look
  refine PySem.W.set_plain X J hs (PySem.W.osa_open (s := { s with toks := s.toks + 1 }) (r := none) X J hp ht fun b => ?_)
  obtain ⟨cd, hc, hd'⟩ := PySem.W.any_some hh
  have hx : s.heap.get? x = some ⟨.ref C, some dx, .plain, #[]⟩ := I.obj
  refine wpAny_bind (wpAny_pure (wpAny_bind (wpAny_bind (wpAny_loadPart hx (wpAny_bind (PySem.W.Looks.here (s := { s with toks := s.toks + 1 }) (PySem.W.looks_clsIn X hc) ?_))))))
  rw [hd']
  refine wpAny_pure (a := some dx) (wpAny_bind (wpAny_pure (wpAny_bind ?_)))
  refine wpAny_nsSet1 (s := { s with toks := s.toks + 1 }) I.ns fun h' hn2 hs2 => ?_
  obtain ⟨oD, esD, epD, hoD, hdD, hcD⟩ := hn2.count (PySem.Within.cons name v hw)
  refine wpAny_bind (wpAny_lookBehind hoD (by rw [hdD]; exact pastItsLine_dict (Nat.le_trans hcD (by rw [List.length_cons]; omega))) ?_)
  exact wpAny_pure (h _ ⟨(hs2.2 _ (Ne.symm I.ne)).trans I.obj, hn2, I.ne⟩ hs2)
theorem make_map {R : Result → Shared → Prop} {vs : List Value} {kw : List (Str × Value)} (X : K.In s.heap) (hm : PySem.W.makesIn K C = true)
    (hi : PySem.W.findIn K (.ref C) "__init__" = some (some (.ref f))) (hf : PySem.W.typeIn K (.ref f) = some (.type "function"))
    (h : codeAny (model prog w) (A.under (.builtin "type.__call__" ⟨.ref C :: vs, kw⟩)) (.call (.ref f) ⟨.ref (s.heap.objs.size + 1) :: vs, kw⟩) (PySem.W.InitBack (s.heap.objs.size + 1) R)
      { s with heap := (s.heap.push PySem.W.emptyDict).push (PySem.W.instObj C s.heap.objs.size) }) :
    codeAny (model prog w) A (.call (.ref C) ⟨vs, kw⟩) R s := by
  obtain ⟨hh, g, d, t, os⟩ := s
  exact PySem.W.make_core (PySem.W.makes_of X hm) (PySem.W.looks_findIn X hi) (fun self => PySem.W.bind_fn X self hf) (.inl rfl) h
end
def putF (f : Str) (v : V) : List (Str × V) → List (Str × V)
  | [] => [(f, v)]
  | (g, x) :: r => if g = f then (g, v) :: r else (g, x) :: putF f v r
theorem lookup_putF (f g : Str) (v : V) : ∀ fs : List (Str × V), (putF f v fs).lookup g = if g = f then some v else fs.lookup g
  | [] => by
    show List.lookup g [(f, v)] = _
    by_cases h : g = f
    · have hb : (g == f) = true := beq_iff_eq.mpr h
      simp only [List.lookup, hb, if_pos h]
    · have hb : (g == f) = false := beq_eq_false_iff_ne.mpr h
      simp only [List.lookup, hb, if_neg h]
  | (k, x) :: r => by
    have ih := lookup_putF f g v r
    rw [show putF f v ((k, x) :: r) = (if k = f then (k, v) :: r else (k, x) :: putF f v r) from rfl]
    by_cases hk : k = f
    · rw [if_pos hk]
      by_cases h : g = k
      · have hb : (g == k) = true := beq_iff_eq.mpr h
        simp only [List.lookup, hb, if_pos (h.trans hk)]
      · have hb : (g == k) = false := beq_eq_false_iff_ne.mpr h
        simp only [List.lookup, hb, if_neg (fun e : g = f => h (e.trans hk.symm))]
    · rw [if_neg hk]
      by_cases h : g = k
      · have hb : (g == k) = true := beq_iff_eq.mpr h
        simp only [List.lookup, hb, if_neg (fun e : g = f => hk (h.symm.trans e))]
      · have hb : (g == k) = false := beq_eq_false_iff_ne.mpr h
        simp only [List.lookup, hb]
        exact ih
theorem keys_putF (f : Str) (v : V) : ∀ fs : List (Str × V), f ∈ (putF f v fs).map (·.1) ∧ ∀ g, g ∈ fs.map (·.1) → g ∈ (putF f v fs).map (·.1)
  | [] => ⟨by simp [putF], fun g h => by simp at h⟩
  | (k, x) :: r => by
    obtain ⟨i1, i2⟩ := keys_putF f v r
    rw [show putF f v ((k, x) :: r) = (if k = f then (k, v) :: r else (k, x) :: putF f v r) from rfl]
    by_cases hk : k = f
    · rw [if_pos hk]
      subst hk
      exact ⟨by simp, fun g h => by simpa using h⟩
    · rw [if_neg hk]
      refine ⟨?_, fun g h => ?_⟩
      · rw [List.map_cons]
        exact List.mem_cons_of_mem _ i1
      · rw [List.map_cons] at h ⊢
        rcases List.mem_cons.mp h with e | e
        · exact List.mem_cons.mpr (.inl e)
        · exact List.mem_cons_of_mem _ (i2 g e)
theorem length_putF (f : Str) (v : V) : ∀ fs : List (Str × V), (putF f v fs).length ≤ fs.length + 1
  | [] => by simp [putF]
  | (k, x) :: r => by
    have ih := length_putF f v r
    rw [show putF f v ((k, x) :: r) = (if k = f then (k, v) :: r else (k, x) :: putF f v r) from rfl]
    by_cases hk : k = f
    · rw [if_pos hk, List.length_cons, List.length_cons]; omega
    · rw [if_neg hk, List.length_cons, List.length_cons]; omega
theorem RelO.some_of {v : V} {o : Option Value} (r : RelO (some v) o) : ∃ u, o = some u ∧ RelV v u := by
  cases o with
  | none => exact (show False from r).elim
  | some u => exact ⟨u, rfl, r⟩
theorem RelO.none_of {o : Option Value} (r : RelO none o) : o = none := by
  cases o with
  | none => rfl
  | some u => exact (show False from r).elim
theorem handed_of {v : V} {u : Value} (r : RelV v u) : PySem.W.handedIn u = true := by
  cases v with
  | non => cases (show u = Value.none from r); rfl
  | bl b => cases (show u = Value.bool b from r); rfl
  | int i => obtain ⟨t, e⟩ := (show ∃ t, u = Value.int i t from r); cases e; rfl
  | str x => obtain ⟨t, e⟩ := (show ∃ t, u = Value.str x t from r); cases e; rfl
  | byt b => obtain ⟨t, e⟩ := (show ∃ t, u = Value.bytes b t from r); cases e; rfl
  | flt b => obtain ⟨t, e⟩ := (show ∃ t, u = Value.float b t from r); cases e; rfl
  | ref a => cases (show u = Value.ref a from r); rfl
  | ty n => cases (show u = Value.type n from r); rfl
section
variable {P : Program} {w : World} {H H' : Hp} {h h' : Heap} {a C dx : Addr} {fs fs' : List (Str × V)}
theorem ins_get (hok : HOk P w H h) (e : H a = some (.ins C dx fs)) : ∃ mA, ObjM h a dx C mA ∧ (∀ f, RelO (fs.lookup f) (mA f)) ∧ PySem.Within mA (fs.map (·.1)) ∧ fs.length ≤ 1000 ∧ H dx = some (.own a) := by
  obtain ⟨d, z, ne, ob, mA, n, r, q⟩ := (show ObjOk P w H h a (.ins C dx fs) from hok a _ e)
  exact ⟨mA, ⟨ob, n, ne⟩, r, q, z, d⟩
end
structure Cls (K : PySem.W.Frag) (C : Addr) : Prop where
  pg : PySem.W.plainGet K C Str.empty = true
  hd : PySem.W.hasDictIn K C = true
  po : PySem.W.plainOver K C = true
  sa : PySem.W.findIn K (.ref C) "__setattr__" = some (some (.builtin "object.__setattr__"))
theorem Cls.get {K : PySem.W.Frag} {C : Addr} (c : Cls K C) (f : Str) : PySem.W.plainGet K C f = true := c.pg
def NoAttr (K : PySem.W.Frag) (C : Addr) (f : Str) : Prop := PySem.W.findIn K (.ref C) f = some none
theorem NoAttr.taker {K : PySem.W.Frag} {C : Addr} {f : Str} (n : NoAttr K C f) : PySem.W.takerIn K C f = some none := by
  unfold PySem.W.takerIn
  rw [show PySem.W.findIn K (.ref C) f = some none from n]
  rfl
structure Meth (K : PySem.W.Frag) (C : Addr) (m : Str) (f : Addr) : Prop where
  at_ : PySem.W.findIn K (.ref C) m = some (some (.ref f))
  fn : PySem.W.isFn K (.ref f) = true
  kp : PySem.W.keepIn K (.ref f) = true
section
variable {X : Cx} {pins : List (Addr × Obj)} {σ : St} {H : Hp} {s : Shared} {a C dx : Addr} {fs : List (Str × V)} {f : Str} {v : V} {A : Around} {E : Value → Shared → Prop}
theorem getattr_ok {b : Bool} {Q : Value → Shared → Prop} (I : Inv X pins σ H s) (e : H a = some (.ins C dx fs)) (c : Cls X.K C) (n : NoAttr X.K C f) (l : fs.lookup f = some v)
    (h : ∀ u s', Inv X pins σ H s' → RelV v u → Q u s') : wpAny (model X.prog X.w) A (getAttr (.ref a) f b) Q E s := by
  obtain ⟨mA, O, r, _, _, _⟩ := ins_get I.hok e
  obtain ⟨u, hu, ru⟩ := RelO.some_of (v := v) (o := mA f) (by rw [← l]; exact r f)
  exact get_map I.kIn O (c.get f) c.hd n hu (handed_of ru) (h u _ (I.tok _) ru)
theorem getmeth_ok {m : Str} {g : Addr} {pl : Sem Bool} {Q : Value × List Value → Shared → Prop} (I : Inv X pins σ H s) (e : H a = some (.ins C dx fs)) (c : Cls X.K C) (k : Meth X.K C m g) (l : fs.lookup m = none)
    (h : Q (.ref g, [.ref a]) s) : wpAny (model X.prog X.w) A (getMethod (.ref a) m pl) Q E s := by
  obtain ⟨mA, O, r, _, _, _⟩ := ins_get I.hok e
  have hn : mA m = none := RelO.none_of (by rw [← l]; exact r m)
  exact get_meth I.kIn O (c.get m) k.at_ k.fn hn h
theorem setattr_ok {y : V} {u : Value} {Q : Unit → Shared → Prop} (I : Inv X pins σ H s) (e : H a = some (.ins C dx fs)) (c : Cls X.K C) (n : NoAttr X.K C f) (hl : fs.length < 1000) (ry : RelV y u)
    (h : ∀ s', Inv X pins σ (upd H a (.ins C dx (putF f y fs))) s' → Q () s') : wpAny (model X.prog X.w) A (setAttr (.ref a) f u) Q E s := by
  obtain ⟨mA, O, r, wi, _, ho⟩ := ins_get I.hok e
  have hz : (fs.map (·.1)).length ≤ sizeLine := by rw [List.length_map, sizeLine_eq]; omega
  refine set_map I.kIn O c.sa c.po n.taker c.hd wi hz fun h' O' sb => h _ ?_
  have hd : ∃ o, h'.get? dx = some o := let ⟨o, _, _, e', _⟩ := O'.ns; ⟨o, e'⟩
  refine I.write (x := a) (e := dx) (by rw [e]; exact True.intro) (.inr ho) (fun b q hb z => (sb.2 b hb).trans z) hd ?_
  refine ⟨by rw [upd_ne O.ne]; exact ho, ?_, O.ne, O'.obj, _, O'.ns, fun g => ?_, fun g hg => ?_⟩
  · have := length_putF f y fs; omega
  · show RelO ((putF f y fs).lookup g) (if g = f then some u else mA g)
    rw [lookup_putF]
    by_cases q : g = f
    · rw [if_pos q, if_pos q]; exact ry
    · rw [if_neg q, if_neg q]; exact r g
  · by_cases q : g = f
    · rw [q]; exact (keys_putF f y fs).1
    · refine (keys_putF f y fs).2 g (wi g fun z => hg ?_)
      show (if g = f then some u else mA g) = none
      rw [if_neg q]; exact z
theorem Inv.made (I : Inv X pins σ H s) : Inv X pins σ (upd (upd H s.heap.objs.size (.own (s.heap.objs.size + 1))) (s.heap.objs.size + 1) (.ins C s.heap.objs.size []))
    { s with heap := (s.heap.push PySem.W.emptyDict).push (PySem.W.instObj C s.heap.objs.size) } := by
  have e1 : (s.heap.push PySem.W.emptyDict).get? s.heap.objs.size = some PySem.W.emptyDict := Heap.get?_push_size s.heap rfl
  have e2 : ((s.heap.push PySem.W.emptyDict).push (PySem.W.instObj C s.heap.objs.size)).get? (s.heap.objs.size + 1) = some (PySem.W.instObj C s.heap.objs.size) := by
    have := Heap.get?_push_size (s.heap.push PySem.W.emptyDict) (o := PySem.W.instObj C s.heap.objs.size) rfl
    rwa [Heap.size_push] at this
  have e3 : (s.heap.push PySem.W.emptyDict).Ns s.heap.objs.size (fun _ => none) := ⟨PySem.W.emptyDict, #[], _, e1, rfl, (fun e he => absurd he (by simp)), fun _ => rfl⟩
  have I1 := I.laid (a := s.heap.objs.size) (o := .own (s.heap.objs.size + 1)) (h' := s.heap.push PySem.W.emptyDict) (t' := s.toks) (fun b u q => Heap.get?_push_of_some _ q) (Nat.le_refl _) ⟨_, e1⟩
  refine I1.laid (a := s.heap.objs.size + 1) (o := .ins C s.heap.objs.size []) (t' := s.toks) (fun b u q => Heap.get?_push_of_some _ q) (Nat.le_of_eq (Heap.size_push _ _)) ?_
  have ne : s.heap.objs.size ≠ s.heap.objs.size + 1 := Nat.ne_of_lt (Nat.lt_succ_self _)
  refine ⟨by rw [upd_ne ne, upd_same], Nat.zero_le _, ne, e2, fun _ => none, (Heap.Ns1.of_empty e3).at fun o q => Heap.get?_push_of_some _ q, fun _ => True.intro, fun y hy => absurd rfl hy⟩
theorem attr_of {prog : Program} {w : World} {env : Env} {e : Expr} {f : Str} {pos : Pos} {s : Shared} {Q : Value → Shared → Prop} (hb : attributeBase e f env (eval e env) = eval e env)
    (h : wpAny (model prog w) A (eval e env) (fun o s₁ => wpAny (model prog w) A (getAttr o f true) Q E s₁) E s) : wpAny (model prog w) A (eval (.Attribute e f pos) env) Q E s :=
  Attribute_any_ h (by rw [arm_eval_Attribute, hb])
end
def tFld (K : PySem.W.Frag) (ta : TE) (f : Str) : TE := fun σ H Q => ta σ H fun x H1 => ∃ a C dx fs v, x = .ref a ∧ H1 a = some (.ins C dx fs) ∧ Cls K C ∧ NoAttr K C f ∧ fs.lookup f = some v ∧ Q v H1
def sFld (K : PySem.W.Frag) (ta tv : TE) (f : Str) : TS := fun D σ H => tv σ H fun y H1 => ta σ H1 fun x H2 => ∃ a C dx fs, x = .ref a ∧ H2 a = some (.ins C dx fs) ∧ Cls K C ∧ NoAttr K C f ∧ fs.length < 1000 ∧
  D.nx σ (upd H2 a (.ins C dx (putF f y fs)))
section
variable {X : Cx} {o e value : Expr} {f : Str} {pos pos' tpos : Pos} {ta tv : TE}
theorem pe_fld (he : PE X e ta) (hb : attributeBase e f X.env (eval e X.env) = eval e X.env) : PE X (.Attribute e f pos) (tFld X.K ta f) := by
  intro pins s σ H Q I h
  refine attr_of hb (thn (he pins s σ H _ I h) fun u s1 ⟨x, H1, I1, rx, a, C, dx, fs, v, ex, ea, c, n, l, q⟩ => ?_)
  subst ex
  obtain rfl : u = Value.ref a := rx
  exact getattr_ok I1 ea c n l fun u' s2 I2 ru => ⟨v, H1, I2, ru, q⟩
theorem ps_fld (ha : PE X o ta) (hv : PE X value tv) (hs : swapsWith value (some (.Attribute o f pos')) pos.line X.env = pure false) : PS X (.Assign [.Attribute o f pos'] value pos) (sFld X.K ta tv f) := by
  intro pins s σ H D I h
  refine plainObj_wpAny_Assign_Attribute (thn (hv pins s σ H _ I h) fun u s1 ⟨y, H1, I1, ry, q⟩ => thn (ha pins s1 σ H1 _ I1 q) fun ov s2 ⟨x, H2, I2, rx, a, C, dx, fs, ex, ea, c, n, l, q2⟩ => ?_) hs
  subst ex
  obtain rfl : ov = Value.ref a := rx
  exact setattr_ok I2 ea c n l ry fun s3 I3 => ⟨σ, _, I3, q2⟩
end
section
variable {X : Cx} {pins : List (Addr × Obj)} {σ : St} {H : Hp} {s : Shared} {A : Around} {E : Value → Shared → Prop} {Q : Value → Shared → Prop} {c : Value} {b : Bool}
end
end L2
namespace L2
open PySem PySem.Spec PyProof.Rows
structure Room (k : Nat) (A : Around) : Prop where
  hd : A.handled = none
  dp : A.depth + 3 * k + 5 < recursionLimit
  un : A.units + 16 * k + 200 < cLine
theorem Room.mono {j k : Nat} {A : Around} (r : Room k A) (h : j ≤ k) : Room j A := ⟨r.hd, by have := r.dp; omega, by have := r.un; omega⟩
theorem Room.deeper {k : Nat} {A : Around} (r : Room (k + 1) A) (env : Env) : Room k (A.deeper env) :=
  ⟨r.hd, by have := r.dp; show A.depth + 1 + 3 * k + 5 < _; omega, by have := r.un; show A.units + 3 + 16 * k + 200 < _; omega⟩
theorem Room.in1 {k : Nat} {A : Around} (r : Room (k + 1) A) : Room k A.in1 :=
  ⟨r.hd, by have := r.dp; show A.depth + 3 * k + 5 < _; omega, by have := r.un; show A.units + 1 + 16 * k + 200 < _; omega⟩
theorem make_depth {A : Around} {C : Addr} {us : List Value} {kw : List (Str × Value)} : (A.under (.builtin "type.__call__" ⟨.ref C :: us, kw⟩)).depth = A.depth + 1 := by
  first | rfl | simp [Around.under, Code.weight, Code.isCreation, Code.isGuard, Code.isCaller, Code.frames, Code.isFrame, guardIds]
theorem make_units {A : Around} {C : Addr} {us : List Value} {kw : List (Str × Value)} : (A.under (.builtin "type.__call__" ⟨.ref C :: us, kw⟩)).units = A.units + 1 := by
  first | rfl | simp [Around.under, Code.cUnits, Code.frames, Code.isFrame]
theorem Room.make {k : Nat} {A : Around} (r : Room (k + 1) A) (C : Addr) (us : List Value) (kw : List (Str × Value)) : Room k (A.under (.builtin "type.__call__" ⟨.ref C :: us, kw⟩)) :=
  ⟨r.hd, by have := r.dp; rw [make_depth]; omega, by have := r.un; rw [make_units]; omega⟩
theorem Room.depth {k : Nat} {A : Around} (r : Room k A) : A.depth < recursionLimit := by have := r.dp; omega
theorem Room.units {k : Nat} {A : Around} (r : Room k A) : A.units + 64 < cLine := by have := r.un; omega
def tNil : TA := fun _ H Q => Q [] H
def tCons (ta : TE) (tr : TA) : TA := fun σ H Q => ta σ H fun x H1 => tr σ H1 fun xs H2 => Q (x :: xs) H2
section
variable {X : Cx} {e : Expr} {es : List Expr} {te : TE} {t : TA} {pos : Pos}
theorem pa_nil : PA X [] tNil := fun _ _ _ _ H Q I h => Calls.spliced_nil ⟨[], H, I, .nil, h⟩
theorem pa_cons (ha : PE X e te) (hr : PA X es t) (hs : starEach (e :: es) X.env = (false, eval e X.env) :: starEach es X.env := by rfl) : PA X (e :: es) (tCons te t) := by
  intro pos pins s σ H Q I h
  rw [hs]
  show wpAny _ _ (spliced ((false, eval e X.env) :: backTo pos (starEach es X.env))) _ _ s
  refine Calls.spliced_cons (thn (ha pins s σ H _ I h) fun u s1 ⟨x, H1, I1, r1, q1⟩ => ?_)
  exact thn (hr pos pins s1 σ H1 _ I1 q1) fun us s2 ⟨xs, H2, I2, r2, q2⟩ => ⟨x :: xs, H2, I2, .cons r1 r2, q2⟩
def tTup (t : TA) : TE := fun σ H Q => t σ H fun xs H1 => xs.length ≤ sizeLine ∧ ∀ p, H1 p = none → Q (.ref p) (upd H1 p (.tup xs))
def tLst (t : TA) : TE := fun σ H Q => t σ H fun xs H1 => xs.length ≤ sizeLine ∧ ∀ p, H1 p = none → Q (.ref p) (upd H1 p (.lst xs))
theorem pe_tup {x1} (h : PA X es t) : PE X (.Tuple es x1 pos) (tTup t) := by
  intro pins s σ H Q I hq
  refine wpAny_Tuple_spliced (thn (h pos pins s σ H _ I hq) fun us s1 ⟨xs, H1, I1, r, z, q⟩ => ⟨by rw [← r.length]; exact z, ?_⟩)
  have hf : H1 s1.heap.objs.size = none := I1.hok.fresh (Nat.le_refl _)
  refine ⟨.ref s1.heap.objs.size, upd H1 s1.heap.objs.size (.tup xs), I1.laid (t' := s1.toks) (fun b u e => Heap.get?_push_of_some _ e) (Nat.le_refl _) ?_, rfl, q _ hf⟩
  exact ⟨z, us, r, ⟨_, Heap.get?_push_size _ rfl, rfl, _, rfl⟩⟩
theorem pe_lst (h : PA X es t) : PE X (.List es pos) (tLst t) := by
  intro pins s σ H Q I hq
  refine wpAny_List_spliced (thn (h pos pins s σ H _ I hq) fun us s1 ⟨xs, H1, I1, r, z, q⟩ => ⟨by rw [← r.length]; exact z, ?_⟩)
  have hf : H1 s1.heap.objs.size = none := I1.hok.fresh (Nat.le_refl _)
  refine ⟨.ref s1.heap.objs.size, upd H1 s1.heap.objs.size (.lst xs), I1.laid (t' := s1.toks) (fun b u e => Heap.get?_push_of_some _ e) (Nat.le_refl _) ?_, rfl, q _ hf⟩
  exact ⟨z, us, 0, r, Heap.get?_push_size _ rfl⟩
end
abbrev Sp := List V → Hp → VK → XK → Prop
abbrev CXT := List Env → Hp → Shared → XK → Value → Shared → Prop
structure Env0 (P : Program) (w : World) (K : PySem.W.Frag) (mg : Str → Option Value) (base : Heap) (A : Around) (outer : List Env) (s : Shared) (H : Hp) : Prop where
  frames : A.frames = some outer
  mod : Mod K mg base
  bs : ∀ b o, base.get? b = some o → s.heap.get? b = some o ∧ H b = none
  bsz : base.objs.size ≤ s.heap.objs.size
  funs : s.heap.FunFrames base outer
  frf : ∀ b ∈ frs outer, H b = none
  hok : HOk P w H s.heap
  bare : AllBare s.gens
def CE (outer : List Env) (P : Program) (w : World) (H : Hp) (s : Shared) (Q : VK) (u : Value) (s' : Shared) : Prop :=
  ∃ v H', s'.os = s.os ∧ AllBare s'.gens ∧ Un (frs outer) [] H H' s.heap s'.heap ∧ HOk P w H' s'.heap ∧ RelV v u ∧ Q v H'
def CR (CX : CXT) (outer : List Env) (P : Program) (w : World) (H : Hp) (s : Shared) (Q : VK) (E : XK) (r : Result) (s' : Shared) : Prop :=
  match r with
  | .ok (.ret u) => CE outer P w H s Q u s'
  | .ok _ => False
  | .error e => CX outer H s E e s'
structure FnOk (P : Program) (w : World) (K : PySem.W.Frag) (mg : Str → Option Value) (base : Heap) (CX : CXT) (k : Nat) (f : Addr) (fd : FuncData) (ps : List Str) (sp : Sp) : Prop where
  len : ∀ vs H Q E, sp vs H Q E → vs.length = ps.length
  run : ∀ (A : Around) (outer : List Env) (s : Shared) (H : Hp) (args : Args) (us : List Value) (vs : List V) (Q : VK) (E : XK), Room k A → Env0 P w K mg base A outer s H → BindsTo s fd args (ps.zip us) → Vals vs us → sp vs H Q E →
    codeAny (model P w) A (.call (.ref f) args) (CR CX outer P w H s Q E) s
theorem FnOk.mono {P : Program} {w : World} {K : PySem.W.Frag} {mg : Str → Option Value} {base : Heap} {CX : CXT} {j k : Nat} {f : Addr} {fd : FuncData} {ps : List Str} {sp : Sp} (F : FnOk P w K mg base CX j f fd ps sp) (h : j ≤ k) :
    FnOk P w K mg base CX k f fd ps sp := ⟨F.len, fun A outer s H args us vs Q E hr => F.run A outer s H args us vs Q E (hr.mono h)⟩
theorem Env0.make {P : Program} {w : World} {K : PySem.W.Frag} {mg : Str → Option Value} {base : Heap} {A : Around} {outer : List Env} {s : Shared} {H : Hp} (e : Env0 P w K mg base A outer s H) (C : Addr) (us : List Value) (kw : List (Str × Value)) :
    Env0 P w K mg base (A.under (.builtin "type.__call__" ⟨.ref C :: us, kw⟩)) outer s H := ⟨by first | exact e.frames | (simpa [Around.under, Code.envs, Code.isFrame, pushEnvs] using e.frames), e.mod, e.bs, e.bsz, e.funs, e.frf, e.hok, e.bare⟩
theorem Env0.in1 {P : Program} {w : World} {K : PySem.W.Frag} {mg : Str → Option Value} {base : Heap} {A : Around} {outer : List Env} {s : Shared} {H : Hp} (e : Env0 P w K mg base A outer s H) :
    Env0 P w K mg base A.in1 outer s H := ⟨e.frames, e.mod, e.bs, e.bsz, e.funs, e.frf, e.hok, e.bare⟩
section
variable {X : Cx} {pins : List (Addr × Obj)} {σ : St} {H : Hp} {s s' : Shared}
theorem Inv.env0 (I : Inv X pins σ H s) : Env0 X.prog X.w X.K X.mg X.base X.A X.stack s H :=
  ⟨I.ok.frames, I.ok.mod, I.bs, Nat.le_trans I.ok.bsz I.sz, I.stack, I.stkFree, I.hok, I.bare⟩
theorem Inv.after {Q : VK} {u : Value} (I : Inv X pins σ H s) (h : CE X.stack X.prog X.w H s Q u s') : EP X pins σ Q u s' := by
  obtain ⟨v, H', os, bare, un, hok, r, q⟩ := h
  obtain ⟨hh, g, d, t, os'⟩ := s'
  obtain rfl : os' = s.os := os
  exact ⟨v, H', I.call (h' := hh) (g' := g) (d' := d) (t' := t) (ch := []) un hok bare (fun b z => absurd z (by simp)), r, q⟩
end
def tCall (sp : Sp) (dvs : List V) (E : XK) (t : TA) : TE := fun σ H Q => t σ H fun vs H1 => sp (vs ++ dvs) H1 Q E
def tMeth (C : Addr) (m : Str) (sp : Sp) (dvs : List V) (E : XK) (ta : TE) (t : TA) : TE := fun σ H Q => ta σ H fun x H1 => ∃ a dx fs, x = .ref a ∧ H1 a = some (.ins C dx fs) ∧ fs.lookup m = none ∧
  t σ H1 fun vs H2 => sp (x :: (vs ++ dvs)) H2 Q E
def tMake (C : Addr) (sp : Sp) (dvs : List V) (E : XK) (t : TA) : TE := fun σ H Q => t σ H fun vs H1 => ∀ x dx, H1 x = none → H1 dx = none → dx ≠ x →
  sp (.ref x :: (vs ++ dvs)) (upd (upd H1 dx (.own x)) x (.ins C dx [])) (fun v H2 => v = .non ∧ Q (.ref x) H2) E
def Binds (K : PySem.W.Frag) (fd : FuncData) (ps : List Str) (ds : List Value) : Prop :=
  ∀ (s : Shared) (us : List Value), K.In s.heap → (us ++ ds).length = ps.length → BindsTo s fd ⟨us, []⟩ (ps.zip (us ++ ds))
theorem Binds.all {K : PySem.W.Frag} {fd : FuncData} {ps : List Str} (h : ∀ us : List Value, us.length = ps.length → bindArgs fd ⟨us, []⟩ = pure (ps.zip us)) : Binds K fd ps [] := fun s us _ hl => by
  rw [List.append_nil] at hl ⊢
  exact .of_eq (h us hl)
def Passes (CX : CXT) (X : Cx) (E : XK) : Prop := ∀ (pins : List (Addr × Obj)) (σ : St) (H : Hp) (s : Shared) (e : Value) (s' : Shared), Inv X pins σ H s → CX X.stack H s E e s' → X.xe e s'
section
variable {X : Cx} {CX : CXT} {k : Nat} {f C : Addr} {fd : FuncData} {ps : List Str} {sp : Sp} {dvs : List V} {ds : List Value} {E : XK} {x m : Str} {p pos apos : Pos} {e o : Expr} {es : List Expr} {ta : TE} {t : TA}
theorem run_fn {pins : List (Addr × Obj)} {σ : St} {H : Hp} {s : Shared} {Q : VK} {us : List Value} {vs : List V} (F : FnOk X.prog X.w X.K X.mg X.base CX k f fd ps sp) (hr : Room k X.A) (hb : Binds X.K fd ps ds) (hd : Vals dvs ds) (hx : Passes CX X E)
    (I : Inv X pins σ H s) (r : Vals vs us) (h : sp (vs ++ dvs) H Q E) : wpAny (model X.prog X.w) X.A (call (.ref f) us) (EP X pins σ Q) X.xe s := by
  have r2 : Vals (vs ++ dvs) (us ++ ds) := r.append hd
  have hl : (us ++ ds).length = ps.length := by rw [← r2.length]; exact F.len _ _ _ _ h
  refine wpAny_call (codeAny_mono (F.run X.A X.stack s H ⟨us, []⟩ (us ++ ds) (vs ++ dvs) Q E hr I.env0 (hb s us I.kIn hl) r2 h) fun r s' hq => ?_)
  cases r with
  | error e => exact hx pins σ H s e s' I hq
  | ok fl =>
    cases fl with
    | ret u => exact I.after hq
    | next => exact False.elim hq
    | brk => exact False.elim hq
    | cont => exact False.elim hq
theorem pe_call (F : FnOk X.prog X.w X.K X.mg X.base CX k f fd ps sp) (hr : Room k X.A) (hg : Gl X x) (hm : X.mg x = some (.ref f)) (hk : PySem.W.keepIn X.K (.ref f) = true) (hb : Binds X.K fd ps ds) (hd : Vals dvs ds) (hx : Passes CX X E)
    (ha : PA X (e :: es) t) (hdb : (x == ("__debug__" : Str)) = false := by decide) (he : starEach (e :: es) X.env = (false, eval e X.env) :: starEach es X.env := by rfl) (hpl : (backTo pos (starEach es X.env)).any (·.1) = false := by rfl) :
    PE X (.Call (.Name x p) (e :: es) [] pos) (tCall sp dvs E t) := by
  intro pins s σ H Q I h
  refine wpAny_Call_Name_kw (ld_glob I hg hm ?_ hdb)
  refine PySem.W.callWith_K (h₀ := X.base) I.ok.mod.kin hk (thn (ha pos pins s σ H _ I h) fun us s1 ⟨vs, H1, I1, r, q⟩ => ⟨I1.kIn, ?_⟩) he hpl
  exact run_fn F hr hb hd hx I1 r q
theorem pe_meth {pl : Sem Bool} (he : PE X o ta) (c : Cls X.K C) (hm : Meth X.K C m f) (F : FnOk X.prog X.w X.K X.mg X.base CX k f fd ps sp) (hr : Room k X.A) (hb : Binds X.K fd ps ds) (hd : Vals dvs ds) (hx : Passes CX X E) (ha : PA X (e :: es) t)
    (hst : starEach (e :: es) X.env = (false, eval e X.env) :: starEach es X.env := by rfl) (hpl : (backTo pos (starEach es X.env)).any (·.1) = false := by rfl)
    (ht : eval (.Call (.Attribute o m apos) (e :: es) [] pos) X.env = (do
      let ov ← eval o X.env
      standAt apos.atName
      let (f, first) ← holding [ov] (getMethod ov m pl)
      callWith pos f first (backTo pos (starEach (e :: es) X.env)) (backToKw pos (keywordEach [] X.env))) := by rfl) :
    PE X (.Call (.Attribute o m apos) (e :: es) [] pos) (tMeth C m sp dvs E ta t) := by
  intro pins s σ H Q I h
  refine PySem.W.methodCall_KW (pl := pl) (thn (he pins s σ H _ I h) fun u s1 ⟨x, H1, I1, rx, a, dx, fs, ex, ea, l, q⟩ => ?_) ht
  subst ex
  obtain rfl : u = Value.ref a := rx
  refine getmeth_ok I1 ea c hm l ?_
  refine PySem.W.callWith_K (first := [.ref a]) (h₀ := X.base) I.ok.mod.kin hm.kp (thn (ha pos pins s1 σ H1 _ I1 q) fun us s2 ⟨vs, H2, I2, r, q2⟩ => ⟨I2.kIn, ?_⟩) hst hpl
  exact run_fn (us := .ref a :: us) (vs := .ref a :: vs) F hr hb hd hx I2 (.cons rfl r) q2
theorem pe_meth0 {pl : Sem Bool} (he : PE X o ta) (c : Cls X.K C) (hm : Meth X.K C m f) (F : FnOk X.prog X.w X.K X.mg X.base CX k f fd ps sp) (hr : Room k X.A) (hb : Binds X.K fd ps ds) (hd : Vals dvs ds) (hx : Passes CX X E)
    (ht : eval (.Call (.Attribute o m apos) [] [] pos) X.env = (do
      let ov ← eval o X.env
      standAt apos.atName
      let (f, first) ← holding [ov] (getMethod ov m pl)
      callWith pos f first (backTo pos (starEach [] X.env)) (backToKw pos (keywordEach [] X.env))) := by rfl) :
    PE X (.Call (.Attribute o m apos) [] [] pos) (tMeth C m sp dvs E ta tNil) := by
  intro pins s σ H Q I h
  refine PySem.W.methodCall_KW (pl := pl) (thn (he pins s σ H _ I h) fun u s1 ⟨x, H1, I1, rx, a, dx, fs, ex, ea, l, q⟩ => ?_) ht
  subst ex
  obtain rfl : u = Value.ref a := rx
  refine getmeth_ok I1 ea c hm l ?_
  exact PySem.W.callWith_K0 (first := [.ref a]) I1.kIn hm.kp (run_fn (us := [.ref a]) (vs := [.ref a]) F hr hb hd hx I1 (.cons rfl .nil) q)
structure Mk (K : PySem.W.Frag) (C f : Addr) : Prop where
  makes : PySem.W.makesIn K C = true
  init : PySem.W.findIn K (.ref C) "__init__" = some (some (.ref f))
  fn : PySem.W.isFn K (.ref f) = true
  kp : PySem.W.keepIn K (.ref C) = true
theorem run_make {pins : List (Addr × Obj)} {σ : St} {H : Hp} {s : Shared} {Q : VK} {us : List Value} {vs : List V} (M : Mk X.K C f) (F : FnOk X.prog X.w X.K X.mg X.base CX k f fd ps sp) (hr : Room (k + 1) X.A) (hb : Binds X.K fd ps ds) (hd : Vals dvs ds)
    (hx : Passes CX X E) (I : Inv X pins σ H s) (r : Vals vs us)
    (h : ∀ x dx, H x = none → H dx = none → dx ≠ x → sp (.ref x :: (vs ++ dvs)) (upd (upd H dx (.own x)) x (.ins C dx [])) (fun v H2 => v = .non ∧ Q (.ref x) H2) E) :
    wpAny (model X.prog X.w) X.A (call (.ref C) us) (EP X pins σ Q) X.xe s := by
  have hq := h (s.heap.objs.size + 1) s.heap.objs.size (I.hok.fresh (Nat.le_succ _)) (I.hok.fresh (Nat.le_refl _)) (Nat.ne_of_lt (Nat.lt_succ_self _))
  have I2 := Inv.made (C := C) I
  have r2 : Vals (V.ref (s.heap.objs.size + 1) :: (vs ++ dvs)) (Value.ref (s.heap.objs.size + 1) :: (us ++ ds)) := .cons rfl (r.append hd)
  have hl : (Value.ref (s.heap.objs.size + 1) :: us ++ ds).length = ps.length := by
    have e := r2.length
    rw [F.len _ _ _ _ hq] at e
    exact e.symm
  refine wpAny_call (make_map (f := f) I.kIn M.makes M.init (beq_iff_eq.mp M.fn) (codeAny_mono (F.run _ X.stack _ _ ⟨Value.ref (s.heap.objs.size + 1) :: us, []⟩ (Value.ref (s.heap.objs.size + 1) :: (us ++ ds)) _ _ E (hr.make C us [])
    (I2.env0.make C us []) (hb _ (Value.ref (s.heap.objs.size + 1) :: us) I2.kIn hl) r2 hq) fun r s' hq' => ?_))
  cases r with
  | error e => exact hx pins σ _ _ e s' I2 hq'
  | ok fl =>
    cases fl with
    | ret u =>
      obtain ⟨v, H', I3, rv, ev, q3⟩ := I2.after hq'
      subst ev
      exact ⟨rv, ⟨V.ref (s.heap.objs.size + 1), H', I3, rfl, q3⟩⟩
    | next => exact False.elim hq'
    | brk => exact False.elim hq'
    | cont => exact False.elim hq'
theorem pe_make0 (M : Mk X.K C f) (F : FnOk X.prog X.w X.K X.mg X.base CX k f fd ps sp) (hr : Room (k + 1) X.A) (hg : Gl X x) (hm : X.mg x = some (.ref C)) (hb : Binds X.K fd ps ds) (hd : Vals dvs ds) (hx : Passes CX X E)
    (hdb : (x == ("__debug__" : Str)) = false := by decide) : PE X (.Call (.Name x p) [] [] pos) (tMake C sp dvs E tNil) := by
  intro pins s σ H Q I h
  refine wpAny_Call_Name_kw (ld_glob I hg hm ?_ hdb)
  exact PySem.W.callWith_K0 I.kIn M.kp (run_make (us := []) M F hr hb hd hx I .nil h)
end
def PK (X : Cx) (kws : List Keyword) (t : TA) : Prop :=
  ∀ (pos : Pos) (pins : List (Addr × Obj)) (s : Shared) (σ : St) (H : Hp) (Q : List V → Hp → Prop), Inv X pins σ H s → t σ H Q → wpAny (model X.prog X.w) X.A (evalAll ((backToKw pos (keywordEach kws X.env)).map (·.2))) (AP X pins σ Q) X.xe s
section
variable {X : Cx} {CX : CXT} {k : Nat} {f C : Addr} {fd : FuncData} {ps ks : List Str} {sp : Sp} {E : XK} {x m : Str} {p pos apos kpos : Pos} {e o : Expr} {es : List Expr} {kws : List Keyword} {te ta : TE} {t tk : TA} {nm : Option Str}
theorem pk_nil : PK X [] tNil := fun _ _ _ _ H Q I h => wpAny_evalAll_nil ⟨[], H, I, .nil, h⟩
theorem pk_cons (ha : PE X e te) (hr : PK X kws t) : PK X (⟨nm, e, kpos⟩ :: kws) (tCons te t) := by
  intro pos pins s σ H Q I h
  show wpAny _ _ (evalAll ((do let v ← eval e X.env; standAt pos; pure v) :: (backToKw pos (keywordEach kws X.env)).map (·.2))) _ _ s
  refine wpAny_evalAll_cons (wpAny_bind (thn (ha pins s σ H _ I h) fun u s1 ⟨x, H1, I1, r1, q1⟩ => wpAny_bind (wpAny_standAt (wpAny_pure ?_))))
  exact thn (hr pos pins s1 σ H1 _ I1 q1) fun us s2 ⟨xs, H2, I2, r2, q2⟩ => ⟨x :: xs, H2, I2, .cons r1 r2, q2⟩
variable {g : List Value → List Value → List Value} {gV : List V → List V → List V}
end
structure FnScope (N P : List Str) (sc : Scope) : Prop where
  kind : sc.kind = .function
  co : sc.isCoroutine = false
  gen : sc.isGenerator = false
  nd : N.Nodup
  pre : N.take P.length = P
  par : ∀ x ∈ P, sc.names.lookup x = some .local ∨ sc.names.lookup x = some .cell
  nofree : ∀ y ∈ sc.names, y.2 ≠ .free
theorem bindL_out {kindOf : Str → Option NameKind} {x : Str} : ∀ {binds : List (Str × Value)} {m : Str → Option Value}, (∀ v, (x, v) ∉ binds) → bindL kindOf binds m x = m x
  | [], _, _ => rfl
  | (n, v) :: r, m, h => by
    unfold bindL
    rw [bindL_out fun w hw => h w (List.mem_cons_of_mem _ hw)]
    split
    · have : x ≠ n := by rintro rfl; exact h v List.mem_cons_self
      simp [this]
    · rfl
theorem bindC_out {kindOf : Str → Option NameKind} {x : Str} : ∀ {binds : List (Str × Value)} {m : Str → Option Value}, (∀ v, (x, v) ∉ binds) → bindC kindOf binds m x = m x
  | [], _, _ => rfl
  | (n, v) :: r, m, h => by
    unfold bindC
    rw [bindC_out fun w hw => h w (List.mem_cons_of_mem _ hw)]
    split
    · rfl
    · have : x ≠ n := by rintro rfl; exact h v List.mem_cons_self
      simp [this]
theorem bindL_get {kindOf : Str → Option NameKind} {x : Str} {v : Value} : ∀ {P : List Str} {vs : List Value} {i : Nat} {m : Str → Option Value}, P.Nodup → P[i]? = some x → vs[i]? = some v → kindOf x = some .local →
    bindL kindOf (P.zip vs) m x = some v
  | [], _, _, _, _, h, _, _ => by simp at h
  | _ :: _, [], _, _, _, _, h, _ => by simp at h
  | p :: P, w :: vs, 0, m, nd, h1, h2, hk => by
    simp at h1 h2; subst h1; subst h2
    show bindL kindOf ((p, w) :: P.zip vs) m p = _
    unfold bindL
    rw [bindL_out fun v hv => (List.nodup_cons.mp nd).1 (List.of_mem_zip hv).1, if_pos hk]
    simp
  | p :: P, w :: vs, i + 1, m, nd, h1, h2, hk => by
    show bindL kindOf ((p, w) :: P.zip vs) m x = _
    unfold bindL
    exact bindL_get (i := i) (List.nodup_cons.mp nd).2 (by simpa using h1) (by simpa using h2) hk
theorem bindC_get {kindOf : Str → Option NameKind} {x : Str} {v : Value} : ∀ {P : List Str} {vs : List Value} {i : Nat} {m : Str → Option Value}, P.Nodup → P[i]? = some x → vs[i]? = some v → kindOf x ≠ some .local →
    bindC kindOf (P.zip vs) m x = some v
  | [], _, _, _, _, h, _, _ => by simp at h
  | _ :: _, [], _, _, _, _, h, _ => by simp at h
  | p :: P, w :: vs, 0, m, nd, h1, h2, hk => by
    simp at h1 h2; subst h1; subst h2
    show bindC kindOf ((p, w) :: P.zip vs) m p = _
    unfold bindC
    rw [bindC_out fun v hv => (List.nodup_cons.mp nd).1 (List.of_mem_zip hv).1, if_neg hk]
    simp
  | p :: P, w :: vs, i + 1, m, nd, h1, h2, hk => by
    show bindC kindOf ((p, w) :: P.zip vs) m x = _
    unfold bindC
    exact bindC_get (i := i) (List.nodup_cons.mp nd).2 (by simpa using h1) (by simpa using h2) hk
def start (N : List Str) (vs : List V) : St := vs.map some ++ List.replicate (N.length - vs.length) none
def cxOf (CX : CXT) (P : Program) (w : World) (K : PySem.W.Frag) (mg : Str → Option Value) (base : Heap) (N : List Str) (qual : Str) (scope : Scope) (f : Addr) (cd : Value) (A : Around) (outer : List Env) (s : Shared) (H : Hp) (E : XK) : Cx where
  prog := P
  w := w
  K := K
  mg := mg
  base := base
  A := A.deeper (envOfC qual scope s.heap.objs.size f cd)
  N := N
  s_0 := s
  H_0 := H
  env := envOfC qual scope s.heap.objs.size f cd
  outer := outer
  stack := envOfC qual scope s.heap.objs.size f cd :: outer
  ex := []
  calm := true
  fn := fun _ => true
  pn := []
  xe := fun e s' => wpAny (model P w) (A.deeper (envOfC qual scope s.heap.objs.size f cd)) (leaving (envOfC qual scope s.heap.objs.size f cd) e) (fun _ s'' => CX outer H s E e s'') (fun e' s'' => CX outer H s E e' s'') s'
theorem cell_has {sc : Scope} {n : Nat} {x : Str} (h : sc.names.lookup x = some .cell) : ∃ c, (cellsFrom n sc.names []).lookup x = some c := by
  have q := PySem.W.cellsFrom_some sc.names n [] (.inl h)
  exact Option.isSome_iff_exists.mp q
theorem inv_start {CX : CXT} {P : Program} {w : World} {K : PySem.W.Frag} {mg : Str → Option Value} {base : Heap} {N ps : List Str} {qual : Str} {scope : Scope} {f : Addr} {cd : Value} {A : Around} {outer : List Env} {s s1 : Shared} {H : Hp} {E : XK} {us : List Value} {vs : List V}
    (S : FnScope N ps scope) (hd : A.handled = none) (e0 : Env0 P w K mg base A outer s H) (hl : vs.length = ps.length) (r : Vals vs us)
    (x : InCallC s s.heap.objs.size (bindL (envOfC qual scope s.heap.objs.size f cd).kindOf (ps.zip us) fun _ => none) (cellsFrom (s.heap.objs.size + 1) scope.names []) (bindC (envOfC qual scope s.heap.objs.size f cd).kindOf (ps.zip us) fun _ => none) s1) :
    Inv (cxOf CX P w K mg base N qual scope f cd A outer s H E) [] (start N vs) H s1 := by
  have hpl : ps.length ≤ N.length := by have := congrArg List.length S.pre; rw [List.length_take] at this; omega
  obtain ⟨h1, tk, rfl, hk⟩ := x.done
  have noA : ∀ b : Addr, b ∉ (cxOf CX P w K mg base N qual scope f cd A outer s H E).ex := fun b z => absurd (show b ∈ ([] : List Addr) from z) (by simp)
  refine ⟨⟨e0.mod, S.kind, rfl, rfl, Nat.le_refl _, fun y z c h1 h2 => ?_, fun y hy => ?_, fun y c _ h => ?_, fun _ => hd, Around.frames_deeper e0.frames, .inr ⟨rfl, rfl⟩, fun b z => absurd z (noA b), e0.bs, e0.bsz, fun b _ _ => noA b, fun b z => absurd z (noA b), e0.funs, e0.frf⟩,
    rfl, e0.bare, Un.kept hk, ⟨_, x.toInCall.ns, fun i y v h1 h2 h3 => ?_⟩, fun y c h => ⟨_, x.cell y c h⟩, e0.hok.fresh (Nat.le_refl _), fun y c h => ?_, fun p hp => absurd (show p ∈ ([] : List (Addr × Obj)) from hp) (by simp), e0.hok.kept hk, ?_⟩
  · exact name_of_addr x.apart (PySem.mem_of_lookup h1) (PySem.mem_of_lookup h2)
  · have hy : scope.names.lookup y = some .cell ∨ scope.names.lookup y = some .free := hy
    rcases hy with hy | hy
    · exact cell_has hy
    · exact absurd rfl (S.nofree _ (PySem.mem_of_lookup hy))
  · exact Nat.le_of_lt (x.above y c (PySem.mem_of_lookup h))
  · have hi : i < vs.length := by
      unfold start at h2
      by_cases hi : i < vs.length
      · exact hi
      · rw [List.getElem?_append_right (by simpa using hi)] at h2
        rw [List.getElem?_replicate] at h2
        split at h2 <;> cases h2
    have ha : vs[i]? = some v := by
      unfold start at h2
      rw [List.getElem?_append_left (by simpa using hi), List.getElem?_map] at h2
      cases e : vs[i]? with
      | none => rw [e] at h2; cases h2
      | some a => rw [e] at h2; cases h2; rfl
    obtain ⟨u, hu, rv⟩ := r.get ha
    have hp : ps[i]? = some y := by
      rw [← S.pre, List.getElem?_take_of_lt (by omega)]; exact h1
    have ndP : ps.Nodup := by rw [← S.pre]; exact S.nd.sublist (List.take_sublist _ _)
    refine ⟨u, rv, ?_⟩
    rcases S.par y (List.mem_of_getElem? hp) with k | k
    · exact .inl ⟨k, bindL_get ndP hp hu k⟩
    · obtain ⟨c, e⟩ := cell_has (n := s.heap.objs.size + 1) k
      refine .inr ⟨.inl k, c, e, ?_⟩
      have q := x.cell y c e
      rw [bindC_get ndP hp hu (by show scope.names.lookup y ≠ _; rw [k]; decide)] at q
      exact q
  · exact e0.hok.fresh (Nat.le_of_lt (x.above y c (PySem.mem_of_lookup h)))
  · unfold start
    show _ = N.length
    rw [List.length_append, List.length_map, List.length_replicate]
    omega
theorem fn_of {CX : CXT} {P : Program} {w : World} {K : PySem.W.Frag} {mg : Str → Option Value} {base : Heap} {k : Nat} {f : Addr} {name qual : Str} {params : Arguments} {body : List Stmt} {scope : Scope} {dV kV doc pm cdv ct oc : Value} {an od : Option Addr}
    {osl : Array (Option Value)} {N ps : List Str} {sp : Sp} (lk : K.lookup f = some ⟨oc, od, .func (PySem.W.fnOf name qual params body scope dV kV doc pm an cdv ct), osl⟩) (hcd : PySem.W.codeIn K cdv qual = true) (S : FnScope N ps scope)
    (len : ∀ vs H Q E, sp vs H Q E → vs.length = ps.length)
    (hbody : ∀ (A : Around) (outer : List Env) (s : Shared) (H : Hp) (vs : List V) (Q : VK) (E : XK), Room k (A.deeper (envOfC qual scope s.heap.objs.size f cdv)) → sp vs H Q E →
      ∃ t, PSs (cxOf CX P w K mg base N qual scope f cdv A outer s H E) body t ∧ t { nx := fun _ H' => Q .non H', rt := Q } (start N vs) H) :
    FnOk P w K mg base CX (k + 1) f (PySem.W.fnOf name qual params body scope dV kV doc pm an cdv ct) ps sp := by
  refine ⟨len, fun A outer s H args us vs Q E hr e0 hb r hsp => ?_⟩
  have hl := len _ _ _ _ hsp
  have KX : K.In s.heap := e0.mod.kin.keeps fun b o e => (e0.bs b o e).1
  have lim : s.heap.NoLimit := e0.mod.nolimit.keeps fun b o e => (e0.bs b o e).1
  have hkind : ∀ y ∈ ps.zip us, scope.names.lookup y.1 = some .local ∨ (scope.names.lookup y.1 = some .cell ∧ ((cellsFrom (s.heap.objs.size + 1) scope.names []).lookup y.1).isSome = true) := fun ⟨n, v⟩ hy => by
    rcases S.par n (List.of_mem_zip hy).1 with q | q
    · exact .inl q
    · exact .inr ⟨q, PySem.W.cellsFrom_some _ _ _ (.inl q)⟩
  refine codeAny_call_function hr.depth (KX _ _ lk) rfl S.co S.gen rfl (PySem.W.codeRec_of KX hcd) (hb _ _ _ _ ?_)
  refine wpAny_newFunctionEnv_cells S.kind hkind fun env he s1 x => ?_
  subst he
  refine ⟨lim.keeps x.toInCall.keep, codeAny_func ?_⟩
  obtain ⟨t, ht, hq⟩ := hbody A outer s H vs Q E (hr.deeper _) hsp
  have I : Inv (cxOf CX P w K mg base N qual scope f cdv A outer s H E) [] (start N vs) H s1 := inv_start S hr.hd e0 hl r x
  refine wpAny_mono (ht [] s1 (start N vs) H _ I hq) (fun fl s' hs => ?_) fun e s' hs => hs
  have fin : ∀ {σ' : St} {H' : Hp} {v : V} {u : Value}, Inv (cxOf CX P w K mg base N qual scope f cdv A outer s H E) [] σ' H' s' → RelV v u → Q v H' → CE outer P w H s Q u s' :=
    fun {σ' H' v u} J rv q => ⟨v, H', J.os, J.bare, J.base, J.hok, rv, q⟩
  cases fl with
  | ret u =>
    obtain ⟨v, σ', H', J, rv, q⟩ := hs
    exact fin J rv q
  | next =>
    obtain ⟨σ', H', J, q⟩ := hs
    exact fin (v := V.non) (u := Value.none) J rfl q
  | brk =>
    obtain ⟨_, _, _, q⟩ := hs
    exact False.elim q
  | cont =>
    obtain ⟨_, _, _, q⟩ := hs
    exact False.elim q
end L2
namespace L2
open PySem PySem.Spec PyProof.Rows
section
variable {X : Cx} {x : Str} {p pos : Pos} {e : Expr} {es : List Expr} {t : TA} {id T : String} {r : List V → Hp → VK → Prop}
def tCB (r : List V → Hp → VK → Prop) (t : TA) : TE := fun σ H Q => t σ H fun vs H1 => r vs H1 Q
theorem pe_callB (hc : CallR X (.builtin id) r) (hg : Gl X x) (hm : X.mg x = none) (hv : bootBuiltins x = some (.builtin id)) (ha : PA X (e :: es) t) (hn : x ≠ "__name__" := by decide) (hdb : (x == ("__debug__" : Str)) = false := by decide)
    (he : starEach (e :: es) X.env = (false, eval e X.env) :: starEach es X.env := by rfl) (hpl : (backTo pos (starEach es X.env)).any (·.1) = false := by rfl) : PE X (.Call (.Name x p) (e :: es) [] pos) (tCB r t) := by
  intro pins s σ H Q I h
  refine wpAny_Call_Name_kw (ld_blt I hg hm hv ?_ hn hdb)
  exact PyProof.Rows.callWith_builtin1 (thn (ha pos pins s σ H _ I h) fun us s1 ⟨vs, H1, I1, r1, q1⟩ => hc pins s1 σ H1 vs us Q I1 r1 q1) he hpl
theorem pe_callTy (hc : CallR X (.type T) r) (hg : Gl X x) (hm : X.mg x = none) (hv : bootBuiltins x = some (.type T)) (ha : PA X (e :: es) t) (hn : x ≠ "__name__" := by decide) (hdb : (x == ("__debug__" : Str)) = false := by decide)
    (he : starEach (e :: es) X.env = (false, eval e X.env) :: starEach es X.env := by rfl) (hpl : (backTo pos (starEach es X.env)).any (·.1) = false := by rfl) : PE X (.Call (.Name x p) (e :: es) [] pos) (tCB r t) := by
  intro pins s σ H Q I h
  refine wpAny_Call_Name_kw (ld_blt I hg hm hv ?_ hn hdb)
  exact PyProof.Rows.callWith_type1 (thn (ha pos pins s σ H _ I h) fun us s1 ⟨vs, H1, I1, r1, q1⟩ => hc pins s1 σ H1 vs us Q I1 r1 q1) he hpl
end
end L2
namespace HT
open PySem PyProof.Rows
def lexLt : List Int → List Int → Bool
  | [], [] => false
  | [], _ :: _ => true
  | _ :: _, [] => false
  | x :: xs, y :: ys => if x = y then lexLt xs ys else decide (x < y)
theorem lexLt_cons (x y : Int) (xs ys : List Int) : lexLt (x :: xs) (y :: ys) = if x = y then lexLt xs ys else decide (x < y) := rfl
theorem lexLt_nil_nil : lexLt [] [] = false := rfl
theorem lexLt_nil_cons (y : Int) (ys : List Int) : lexLt [] (y :: ys) = true := rfl
theorem lexLt_cons_nil (x : Int) (xs : List Int) : lexLt (x :: xs) [] = false := rfl
theorem eqAt_int (A : Around) (s : Shared) (a : Int) (t : Tok) (c : Int) (u : Tok) : ∃ e, SeqAt.EqAt A s (.int a t) (.int c u) e ∧ (e = true ↔ a = c) :=
  ⟨(a == c), SeqAt.EqAt.int_int a t c u, by simp⟩
theorem rcLt_int (A : Around) (s : Shared) (a : Int) (t : Tok) (c : Int) (u : Tok) (prog : Program) (w : World) (E : Value → Shared → Prop) (Q : Value → Shared → Prop) (h : Q (.bool (decide (a < c))) s) :
    wpAny (model prog w) A (richCompare .Lt (.int a t) (.int c u)) Q E s :=
  (PyProof.Rows.lt_int h : wpAny (model prog w) A (compareOp .Lt (.int a t) (.int c u)) Q E s)
section
open PySem.SeqAt
open PySem.AutoSeq1 (wpAny_loadPart')
open PySem.MeetsSeq PySem.MeetsSeq2 PySem.MeetsSeq3
theorem tuple_lt_ints (l b : Addr) (items items2 : Array Value) (n n2 : Nat) (dd dd2 : Option Addr) (sl sl2 : Array (Option Value)) (ns ms : List Int) (hi : IntsAre items.toList ns) (hj : IntsAre items2.toList ms) :
    Meets (Builtin.«tuple.__lt__» ⟨[.ref l, .ref b], []⟩)
      (fun _ R s => s.heap.get? l = some { cls := .type "tuple", dict := dd, data := .seq items n, slots := sl } ∧ s.heap.get? b = some { cls := .type "tuple", dict := dd2, data := .seq items2 n2, slots := sl2 } ∧
        R (.ok (.ret (.bool (lexLt ns ms)))) s) :=
  .of_wp fun prog w A R s h => by
    obtain ⟨hp, g, d, tk, os⟩ := s; obtain ⟨hl, hb, h⟩ := h
    have f2 := AutoSeq1.sub_tuple_tuple
    have z1 : items.size = ns.length := by rw [← hi.length]; simp
    have z2 : items2.size = ms.length := by rw [← hj.length]; simp
    wp_walk using wpAny_loadPart' hl, wpAny_loadPart' hb, wpAny_forIn_list _ (fun rest b s' => b.1 = none ∧ s' = ⟨hp, g, d, tk, os⟩ ∧ ∃ (vs ws : List Value) (ns' ms' : List Int), rest = vs.zip ws ∧
      IntsAre vs ns' ∧ IntsAre ws ms' ∧ ns'.length + items2.size = ms'.length + items.size ∧ R (.ok (.ret (.bool (lexLt ns' ms')))) ⟨hp, g, d, tk, os⟩) _
    case turn =>
      rintro ⟨y, x⟩ rest b s' ⟨hb', rfl, vs, ws, ns', ms', hz, hvi, hwi, hlen, hR⟩
      cases hvi with
      | nil => rw [List.zip_nil_left] at hz; cases hz
      | cons a t hvi' =>
        cases hwi with
        | nil => rw [List.zip_nil_right] at hz; cases hz
        | cons c u hwi' =>
          rw [List.zip_cons_cons] at hz
          injection hz with hyx hrest
          injection hyx with hy hx
          subst hy hx
          rw [lexLt_cons] at hR
          simp only [List.length_cons] at hlen
          obtain ⟨e, he, hiff⟩ := eqAt_int A.in1 ⟨hp, g, d, tk, os⟩ a t c u
          refine wpAny_bind (he prog w _ _ ?_)
          cases e with
          | true =>
            rw [if_pos (hiff.mp rfl)] at hR
            wp_walk
            exact ⟨rfl, rfl, _, _, _, _, hrest, hvi', hwi', by omega, hR⟩
          | false =>
            rw [if_neg (fun q => absurd (hiff.mpr q) Bool.false_ne_true)] at hR
            have hri := rcLt_int A.in1 ⟨hp, g, d, tk, os⟩ a t c u prog w
            wp_walk using hri
            exact ⟨_, rfl, by simpa using hR⟩
    case fin =>
      rintro ⟨b1, b2⟩ s' ⟨hb', rfl, vs, ws, ns', ms', hz, hvi, hwi, hlen, hR⟩
      simp only at hb'
      subst hb'
      have hv : lexLt ns' ms' = decide (items.size < items2.size) := by
        cases hvi with
        | nil =>
          cases hwi with
          | nil =>
            simp only [List.length_nil] at hlen
            rw [lexLt_nil_nil]
            exact (decide_eq_false (by omega)).symm
          | cons c u hw =>
            simp only [List.length_nil, List.length_cons] at hlen
            rw [lexLt_nil_cons]
            exact (decide_eq_true (by omega)).symm
        | cons a t hv =>
          cases hwi with
          | nil =>
            simp only [List.length_nil, List.length_cons] at hlen
            rw [lexLt_cons_nil]
            exact (decide_eq_false (by omega)).symm
          | cons c u hw =>
            rw [List.zip_cons_cons] at hz
            cases hz
      rw [hv] at hR
      wp_walk
      exact ⟨_, rfl, by simpa [Builtin.Tuple.tupleCompareSizes] using hR⟩
    case h =>
      exact ⟨rfl, rfl, items.toList, items2.toList, ns, ms, rfl, hi, hj, by omega, h⟩
end
section
variable {prog : Program} {w : World} {A : Around} {E : Value → Shared → Prop} {s : Shared}
theorem lt_tupInts {l b : Addr} {items items2 : Array Value} {ns ms : List Int} {Q : Value → Shared → Prop} (hl : IsTup s.heap l items) (hb : IsTup s.heap b items2) (hi : IntsAre items.toList ns) (hj : IntsAre items2.toList ms)
    (hu : A.units < cLine) (h : Q (.bool (lexLt ns ms)) s) : wpAny (model prog w) A (compareOp .Lt (.ref l) (.ref b)) Q E s := by
  obtain ⟨⟨cls, dd, data, sl⟩, ho, hc, n, hd⟩ := id hl
  obtain ⟨⟨cls2, dd2, data2, sl2⟩, ho2, hc2, n2, hd2⟩ := id hb
  simp only at hc hd hc2 hd2
  subst hc hd hc2 hd2
  exact richCompare_meets_room (op := .Lt) ⟨_, ho, rfl⟩ ⟨_, ho2, rfl⟩ PySem.F.slot_tuple_lt PySem.F.entry_tuple_lt (PySem.F.args_tuple_lt_2 _ _) (tuple_lt_ints l b items items2 n n2 dd dd2 sl sl2 ns ms hi hj)
    ⟨ho, ho2, show Value.bool (lexLt ns ms) ≠ Value.notImplemented ∧ Q (.bool (lexLt ns ms)) s from ⟨(fun x => nomatch x), h⟩⟩ hu
def sIx (n d : Nat) : Option Int → Nat
  | none => d
  | some v => if v < 0 then (v + (n : Int)).toNat else min v.toNat n
end
end HT
namespace L2
open PySem PySem.Spec PyProof.Rows
abbrev TO := St → Hp → (Option Int → Hp → Prop) → Prop
def PO (X : Cx) (e : Option Expr) (t : TO) : Prop :=
  ∀ (pins : List (Addr × Obj)) (s : Shared) (σ : St) (H : Hp) (Q : Option Int → Hp → Prop), Inv X pins σ H s → t σ H Q →
    wpAny (model X.prog X.w) X.A (evalPart e X.env) (fun u s' => ∃ o H', Inv X pins σ H' s' ∧ IsPart u o ∧ Q o H') X.xe s
def tNoPart : TO := fun _ H Q => Q none H
def tPart (t : TE) : TO := fun σ H Q => t σ H fun x H1 => ∃ i, x = .int i ∧ Q (some i) H1
theorem intsAre_of {ns : List Int} : ∀ {us : List Value}, Vals (ns.map V.int) us → IntsAre us ns := by
  induction ns with
  | nil => intro us r; rw [List.map_nil] at r; cases r; exact .nil
  | cons n ns ih =>
    intro us r
    rw [List.map_cons] at r
    cases r with
    | cons r1 r2 =>
      obtain ⟨t, e⟩ := r1
      subst e
      exact .cons n t (ih r2)
section
variable {X : Cx} {e : Expr} {te : TE} {lo hi : Option Expr} {tl th : TO} {pos p2 : Pos}
theorem po_none : PO X none tNoPart := by
  intro pins s σ H Q I h
  rw [evalPart_none]
  exact wpAny_pure ⟨none, H, I, .none, h⟩
theorem po_some (h : PE X e te) : PO X (some e) (tPart te) := by
  intro pins s σ H Q I hw
  rw [evalPart_some]
  refine thn (h pins s σ H _ I hw) fun u s1 ⟨x, H1, I1, r1, q1⟩ => ?_
  obtain ⟨i, rfl, q⟩ := q1
  obtain ⟨t, rfl⟩ := r1
  exact ⟨some i, H1, I1, .int i t, q⟩
def SlR (X : Cx) (r : V → Option Int → Option Int → Hp → VK → Prop) : Prop :=
  ∀ (pins : List (Addr × Obj)) (s : Shared) (σ : St) (H : Hp) (x : V) (v vl vu : Value) (lo hi : Option Int) (sl : Addr) (Q : VK), Inv X pins σ H s → RelV x v → s.heap.IsSliceOf sl vl vu .none → IsPart vl lo → IsPart vu hi → r x lo hi H Q →
    ∃ T id, typeLookup (.type T) "__getitem__" = pure (some (.builtin id)) ∧ s.TypeIs v T ∧ wpAny (model X.prog X.w) X.A (getItem v (.ref sl)) (EP X pins σ Q) X.xe s
def tSl (r : V → Option Int → Option Int → Hp → VK → Prop) (te : TE) (tl th : TO) : TE := fun σ H Q => te σ H fun x H1 => tl σ H1 fun l H2 => th σ H2 fun u H3 => r x l u H3 Q
theorem pe_slice {r : V → Option Int → Option Int → Hp → VK → Prop} (hr : SlR X r) (he : PE X e te) (hl : PO X lo tl) (hu : PO X hi th) : PE X (.Subscript e (.Slice lo hi none p2) pos) (tSl r te tl th) := by
  intro pins s σ H Q I h
  refine Subscript_ (thn (he pins s σ H _ I h) fun v s1 ⟨x, H1, I1, r1, q1⟩ => ?_)
  refine wpAny_Slice (thn (hl pins s1 σ H1 _ I1 q1) fun vl s2 ⟨l, H2, I2, pl, q2⟩ => thn (hu pins s2 σ H2 _ I2 q2) fun vu s3 ⟨u, H3, I3, pu, q3⟩ => ?_)
  rw [evalPart_none]
  refine wpAny_pure ?_
  have I4 : Inv X pins σ H3 { s3 with heap := s3.heap.push { cls := .type "slice", data := .fields #[vl, vu, .none] } } := I3.kept (t' := s3.toks) fun b ob q => Heap.get?_push_of_some _ q
  obtain ⟨T, id, hT, ht, hg⟩ := hr pins { s3 with heap := s3.heap.push { cls := .type "slice", data := .fields #[vl, vu, .none] } } σ H3 x v vl vu l u s3.heap.objs.size Q I4 r1 (Heap.IsSliceOf.new ..) pl pu q3
  show wpAny (model X.prog X.w) X.A (subscriptTail e (.Slice lo hi none p2) v (.ref s3.heap.objs.size)) (EP X pins σ Q) X.xe { s3 with heap := s3.heap.push { cls := .type "slice", data := .fields #[vl, vu, .none] } }
  exact tail_any (ops := [.ref s3.heap.objs.size, v]) ht hT hg (by with_unfolding_all rfl)
def cutV (xs : List V) (lo hi : Option Int) : List V := (xs.drop (HT.sIx xs.length 0 lo)).take (HT.sIx xs.length xs.length hi - HT.sIx xs.length 0 lo)
theorem cutV_length (xs : List V) (lo hi : Option Int) : (cutV xs lo hi).length ≤ xs.length := by
  unfold cutV
  rw [List.length_take, List.length_drop]
  omega
end
end L2
namespace L2
open PySem PySem.Spec PyProof.Rows
def ixN (n : Nat) (i : Int) : Option Nat := if 0 ≤ i then (if i < n then some i.toNat else none) else if -(n : Int) ≤ i then some (i + n).toNat else none
def atI {α : Type} (xs : List α) (i : Int) : Option α := (ixN xs.length i).bind fun j => xs[j]?
theorem ixN_seq {n : Nat} {i : Int} {j : Nat} (h : ixN n i = some j) : seqIndex? i n = some j ∧ j < n ∧ -(n : Int) ≤ i ∧ i < n := by
  unfold ixN at h
  by_cases h0 : 0 ≤ i
  · rw [if_pos h0] at h
    by_cases h1 : i < n
    · rw [if_pos h1] at h
      have e : i.toNat = j := Option.some.inj h
      exact ⟨by rw [seqIndex_of h0 h1, e], by omega, by omega, h1⟩
    · rw [if_neg h1] at h; cases h
  · rw [if_neg h0] at h
    by_cases h1 : -(n : Int) ≤ i
    · rw [if_pos h1] at h
      have e : (i + n).toNat = j := Option.some.inj h
      exact ⟨by rw [seqIndex_neg (by omega) h1, e], by omega, h1, by omega⟩
    · rw [if_neg h1] at h; cases h
theorem atI_get {α : Type} {xs : List α} {i : Int} {v : α} (h : atI xs i = some v) : ∃ j, seqIndex? i xs.length = some j ∧ xs[j]? = some v ∧ j < xs.length ∧ -(xs.length : Int) ≤ i ∧ i < xs.length := by
  unfold atI at h
  cases e : ixN xs.length i with
  | none => rw [e] at h; cases h
  | some j =>
    rw [e] at h
    obtain ⟨h1, h2, h3, h4⟩ := ixN_seq e
    exact ⟨j, h1, h, h2, h3, h4⟩
theorem atI_nat {α : Type} {xs : List α} {j : Nat} {v : α} (h : xs[j]? = some v) : atI xs (j : Int) = some v := by
  have hj : j < xs.length := (List.getElem?_eq_some_iff.mp h).1
  have e : ixN xs.length (j : Int) = some j := by
    unfold ixN
    rw [if_pos (by omega), if_pos (by omega)]; simp
  unfold atI; rw [e]; exact h
def PlainIx (b : Expr) : Prop := ∀ o i, subscripted b false o i = operate [o, i] (getItem o i)
def IxR (X : Cx) (r : R2) : Prop :=
  ∀ (value slice : Expr) (pins : List (Addr × Obj)) (s : Shared) (σ : St) (H : Hp) (x y : V) (v u : Value) (Q : VK), Inv X pins σ H s → RelV x v → RelV y u → r x y H Q →
    subscripted slice false v u = operate [v, u] (getItem v u) → wpAny (model X.prog X.w) X.A (subscriptTail value slice v u) (EP X pins σ Q) X.xe s
def MtR (X : Cx) (id : String) (r : V → List V → Hp → VK → Prop) : Prop :=
  ∀ (pins : List (Addr × Obj)) (s : Shared) (σ : St) (H : Hp) (x : V) (xs : List V) (v : Value) (us : List Value) (Q : VK), Inv X pins σ H s → RelV x v → Vals xs us → r x xs H Q →
    wpAny (model X.prog X.w) X.A (call (.builtin id) (v :: us)) (EP X pins σ Q) X.xe s
section
variable {X : Cx} {a b : Expr} {ta tb : TE} {pos : Pos}
theorem pe_ix {r : R2} (hr : IxR X r) (ha : PE X a ta) (hb : PE X b tb) (hs : PlainIx b) : PE X (.Subscript a b pos) (tOp r ta tb) := by
  intro pins s σ H Q I h
  exact Subscript_ (binT ha hb I h fun v u s2 x y H2 I2 rx ry q => hr a b pins s2 σ H2 x y v u Q I2 rx ry q (hs _ _))
def rIxL (K : PySem.W.Frag) : R2 := fun x y H Q => ∃ p xs i v, x = .ref p ∧ y = .int i ∧ SqL K H p xs ∧ atI xs i = some v ∧ Q v H
def rIxT (K : PySem.W.Frag) : R2 := fun x y H Q => ∃ p xs i v, x = .ref p ∧ y = .int i ∧ SqT K H p xs ∧ atI xs i = some v ∧ Q v H
theorem ix_list : IxR X (rIxL X.K) := by
  intro value slice pins s σ H x y v u Q I rx ry h hs
  obtain ⟨p, xs, i, z, rfl, rfl, hq, he, q⟩ := h
  cases rx
  obtain ⟨t, rfl⟩ := ry
  obtain ⟨its, r, pl, hz⟩ := I.list hq
  obtain ⟨j, h1, h2, h3, h4, h5⟩ := atI_get he
  obtain ⟨w, ew, rw'⟩ := r.get h2
  have hl := r.length
  have hn := line63
  have fin : EP X pins σ Q w s := ⟨z, H, I, rw', q⟩
  by_cases h0 : 0 ≤ i
  · have hj : i.toNat = j := by
      rw [seqIndex_of h0 h5] at h1
      exact Option.some.inj h1
    exact item_listR pl.isList h0 (by omega) (by rw [hj]; simpa using ew) fin hs
  · have hj : (i + (its.toArray.size : Int)).toNat = j := by
      rw [seqIndex_neg (by omega) h4] at h1
      rw [List.size_toArray, ← hl]
      exact Option.some.inj h1
    exact subscriptTail_builtinR (x := w) pl.isList.typeIs slot_list_getitem.lookup
      (wpAny_getItem_list_neg (Q := fun r s' => r = w ∧ EP X pins σ Q r s') pl.isList (by omega) (by rw [List.size_toArray] <;> omega) (by omega) (by rw [hj]; simpa using ew) ⟨rfl, fin⟩) hs
theorem ix_tup : IxR X (rIxT X.K) := by
  intro value slice pins s σ H x y v u Q I rx ry h hs
  obtain ⟨p, xs, i, z, rfl, rfl, hq, he, q⟩ := h
  cases rx
  obtain ⟨t, rfl⟩ := ry
  obtain ⟨its, r, pl, hz⟩ := I.tuple hq
  obtain ⟨j, h1, h2, h3, h4, h5⟩ := atI_get he
  obtain ⟨w, ew, rw'⟩ := r.get h2
  have hl := r.length
  have hn := line63
  have fin : EP X pins σ Q w s := ⟨z, H, I, rw', q⟩
  exact subscriptTail_builtinR (x := w) pl.typeIs slot_tuple_getitem.lookup
    (getItem_tuple (j := j) (Q := fun r s' => r = w ∧ EP X pins σ Q r s') pl (by omega) (by omega) (by rw [List.size_toArray, ← hl]; exact h1) (by simpa using ew) ⟨rfl, fin⟩) hs
theorem mapSeq_set (its : List Value) (n j : Nat) (u : Value) : Obj.mapSeq (·.setIfInBounds j u) { cls := .type "list", data := .seq its.toArray n } = { cls := .type "list", data := .seq (its.set j u).toArray n } := by
  simp [Obj.mapSeq]
theorem Inv.lst {pins : List (Addr × Obj)} {σ : St} {H : Hp} {s : Shared} {p : Addr} {xs : List V} (I : Inv X pins σ H s) (h : H p = some (.lst xs)) :
    ∃ (its : List Value) (n : Nat), Vals xs its ∧ s.heap.get? p = some { cls := .type "list", data := .seq its.toArray n } ∧ xs.length ≤ sizeLine := by
  obtain ⟨z, its, n, r, e⟩ := I.hok p _ h
  exact ⟨its, n, r, e, z⟩
theorem Inv.lstUpd {pins : List (Addr × Obj)} {σ : St} {H : Hp} {s : Shared} {p : Addr} {xs ys : List V} {its its' : List Value} {n n' : Nat} {f : Obj → Obj} (I : Inv X pins σ H s) (h : H p = some (.lst xs))
    (ho : s.heap.get? p = some { cls := .type "list", data := .seq its.toArray n }) (hf : f { cls := .type "list", data := .seq its.toArray n } = { cls := .type "list", data := .seq its'.toArray n' }) (r : Vals ys its') (hz : ys.length ≤ sizeLine) (t : Nat) :
    Inv X pins σ (upd H p (.lst ys)) { s with heap := s.heap.update p f, toks := t } := by
  have e : (s.heap.update p f).get? p = some { cls := .type "list", data := .seq its'.toArray n' } := by
    rw [Heap.get?_update_self f ho (by rw [hf] <;> rfl), hf]
  refine I.write (x := p) (e := p) (by rw [h]; trivial) (.inl rfl) (fun b u hb q => (Heap.get?_update_other _ _ (Ne.symm hb)).trans q) ⟨_, e⟩ ?_
  exact ⟨hz, its', n', r, e⟩
def rSetL : V → V → V → Hp → (Hp → Prop) → Prop := fun o i v H Q => ∃ p xs k j, o = .ref p ∧ i = .int k ∧ H p = some (.lst xs) ∧ ixN xs.length k = some j ∧ Q (upd H p (.lst (xs.set j v)))
theorem set_list : PSet X rSetL := by
  intro pins s σ H o i v ov iv u Q I ro ri rv h
  obtain ⟨p, xs, k, j, rfl, rfl, hp, hj, q⟩ := h
  cases ro
  obtain ⟨t, rfl⟩ := ri
  obtain ⟨its, n, r, ho, hz⟩ := I.lst hp
  obtain ⟨h1, h2, h3, h4⟩ := ixN_seq hj
  have hl := r.length
  have hn := line63
  have I' : Inv X pins σ (upd H p (.lst (xs.set j v))) { s with heap := s.heap.update p (Obj.mapSeq (·.setIfInBounds j u)) } :=
    I.lstUpd hp ho (mapSeq_set its n j u) (r.set rv j) (by rw [List.length_set]; exact hz) s.toks
  by_cases h0 : 0 ≤ k
  · have hk : k.toNat = j := by
      rw [seqIndex_of h0 h4] at h1
      exact Option.some.inj h1
    exact PySem.W.ki_setAt ho h0 (by omega) (by rw [List.size_toArray, ← hl]; exact h4) (by rw [hk]; exact ⟨_, I', q⟩)
  · have hk : (k + (its.toArray.size : Int)).toNat = j := by
      rw [seqIndex_neg (by omega) h3] at h1
      rw [List.size_toArray, ← hl]
      exact Option.some.inj h1
    exact PySem.W.ki_setBack ho (by omega) (by rw [List.size_toArray, ← hl]; exact h3) (by omega) (by rw [hk]; exact ⟨_, I', q⟩)
theorem slice_bounds (lo hi : Option Int) (n : Nat) : (sliceBounds lo hi none n).1 = ((HT.sIx n 0 lo : Nat) : Int) ∧ (sliceBounds lo hi none n).2.1 = ((HT.sIx n n hi : Nat) : Int) ∧ (sliceBounds lo hi none n).2.2 = 1 := by
  refine ⟨?_, ?_, rfl⟩
  · cases lo with
    | none => simp [sliceBounds, HT.sIx]
    | some i =>
      simp only [sliceBounds, HT.sIx, Option.getD_none, show (1 : Int) > 0 by decide, if_true]
      by_cases h : i < 0
      · simp only [h, if_true] <;> omega
      · simp only [h, if_false] <;> omega
  · cases hi with
    | none => simp [sliceBounds, HT.sIx]
    | some i =>
      simp only [sliceBounds, HT.sIx, Option.getD_none, show (1 : Int) > 0 by decide, if_true]
      by_cases h : i < 0
      · simp only [h, if_true] <;> omega
      · simp only [h, if_false] <;> omega
theorem slicePick_cut (its : List Value) (lo hi : Option Int) : slicePick its.toArray lo hi none = ((its.drop (HT.sIx its.length 0 lo)).take (HT.sIx its.length its.length hi - HT.sIx its.length 0 lo)).toArray := by
  obtain ⟨h1, h2, h3⟩ := slice_bounds lo hi its.toArray.size
  unfold slicePick
  rw [h1, h2, h3]
  simp only [sliceRange_one, pick_run, List.size_toArray] <;> rfl
def rSlL (K : PySem.W.Frag) : V → Option Int → Option Int → Hp → VK → Prop := fun x lo hi H Q => ∃ a xs, x = .ref a ∧ SqL K H a xs ∧ ∀ p, H p = none → Q (.ref p) (upd H p (.lst (cutV xs lo hi)))
theorem sl_list : SlR X (rSlL X.K) := by
  intro pins s σ H x v vl vu lo hi sl Q I rx hs pl pu h
  obtain ⟨a, xs, rfl, hx, q⟩ := h
  cases rx
  obtain ⟨its, r, ht, hz⟩ := I.list hx
  have hlen := r.length
  refine ⟨"list", _, slot_list_getitem.lookup, ht.isList.typeIs, ?_⟩
  refine wpAny_getItem_list_slice ht.isList hs pl pu .none (by simp) ?_ (by rw [List.size_toArray] <;> omega)
  rw [slicePick_cut, ← hlen]
  refine ⟨.ref s.heap.objs.size, _, I.laid (t' := s.toks) (o := .lst (cutV xs lo hi)) (fun b ob q => Heap.get?_push_of_some _ q) (Nat.le_refl _) ?_, rfl, q _ (I.hok.fresh (Nat.le_refl _))⟩
  exact ⟨Nat.le_trans (cutV_length xs lo hi) hz, _, 0, (r.drop (HT.sIx xs.length 0 lo)).take (HT.sIx xs.length xs.length hi - HT.sIx xs.length 0 lo), Heap.get?_push_size _ rfl⟩
def flatV : V → Bool
  | .non => true
  | .bl _ => true
  | .int _ => true
  | .str _ => true
  | _ => false
def eqV : V → V → Bool
  | .non, .non => true
  | .bl a, .bl b => a == b
  | .bl a, .int b => (if a then 1 else 0) == b
  | .int a, .bl b => a == (if b then 1 else 0)
  | .int a, .int b => a == b
  | .str a, .str b => a == b
  | _, _ => false
theorem eqAt_V {A : Around} {s : Shared} {y x : V} {u v : Value} (ry : RelV y u) (rx : RelV x v) (fy : flatV y = true) (fx : flatV x = true) : SeqAt.EqAt A s u v (eqV y x) := by
  cases y with
  | non =>
    cases ry
    cases x with
    | non => cases rx; exact SeqAt.EqAt.same _
    | bl b => cases rx; exact SeqAt.EqAt.none_bool b
    | int b => obtain ⟨t, rfl⟩ := rx; exact SeqAt.EqAt.none_int b t
    | str b => obtain ⟨t, rfl⟩ := rx; exact SeqAt.EqAt.none_str b t
    | _ => exact absurd (show false = true from fx) Bool.false_ne_true
  | bl a =>
    cases ry
    cases x with
    | non => cases rx; exact SeqAt.EqAt.bool_none a
    | bl b => cases rx; exact SeqAt.EqAt.bool_bool a b
    | int b => obtain ⟨t, rfl⟩ := rx; exact SeqAt.EqAt.bool_int a b t
    | str b => obtain ⟨t, rfl⟩ := rx; exact SeqAt.EqAt.bool_str a b t
    | _ => exact absurd (show false = true from fx) Bool.false_ne_true
  | int a =>
    obtain ⟨t', rfl⟩ := ry
    cases x with
    | non => cases rx; exact SeqAt.EqAt.int_none a t'
    | bl b => cases rx; exact SeqAt.EqAt.int_bool a t' b
    | int b => obtain ⟨t, rfl⟩ := rx; exact SeqAt.EqAt.int_int a t' b t
    | str b => obtain ⟨t, rfl⟩ := rx; exact SeqAt.EqAt.int_str a t' b t
    | _ => exact absurd (show false = true from fx) Bool.false_ne_true
  | str a =>
    obtain ⟨t', rfl⟩ := ry
    cases x with
    | non => cases rx; exact SeqAt.EqAt.str_none a t'
    | bl b => cases rx; exact SeqAt.EqAt.str_bool a t' b
    | int b => obtain ⟨t, rfl⟩ := rx; exact SeqAt.EqAt.str_int a t' b t
    | str b => obtain ⟨t, rfl⟩ := rx; exact SeqAt.EqAt.str_str a t' b t
    | _ => exact absurd (show false = true from fx) Bool.false_ne_true
  | _ => exact absurd (show false = true from fy) Bool.false_ne_true
def eqU (x : V) (u : Value) : Bool := match u with
  | .none => eqV .non x
  | .bool b => eqV (.bl b) x
  | .int i _ => eqV (.int i) x
  | .str z _ => eqV (.str z) x
  | _ => false
theorem eqU_of {x y : V} {u : Value} (r : RelV y u) (f : flatV y = true) : eqU x u = eqV y x := by
  cases y with
  | non => cases r; rfl
  | bl b => cases r; rfl
  | int i => obtain ⟨t, rfl⟩ := r; rfl
  | str z => obtain ⟨t, rfl⟩ := r; rfl
  | _ => exact absurd (show false = true from f) Bool.false_ne_true
theorem any_eqU {x : V} : ∀ {xs : List V} {us : List Value}, Vals xs us → xs.all flatV = true → us.any (eqU x) = xs.any fun y => eqV y x
  | _, _, .nil, _ => rfl
  | y :: xs, u :: us, .cons r t, f => by
    rw [List.all_cons, Bool.and_eq_true] at f
    rw [List.any_cons, List.any_cons, eqU_of r f.1, any_eqU t f.2]
theorem mem_eqAt {A : Around} {s : Shared} {x : V} {v : Value} (rx : RelV x v) (fx : flatV x = true) : ∀ {xs : List V} {us : List Value}, Vals xs us → xs.all flatV = true → ∀ u ∈ us, SeqAt.EqAt A s u v (eqU x u)
  | _, _, .nil, _ => fun u hu => by cases hu
  | y :: xs, u :: us, .cons r t, f => fun u' hu => by
    rw [List.all_cons, Bool.and_eq_true] at f
    rcases List.mem_cons.mp hu with rfl | hu
    · rw [eqU_of r f.1]; exact eqAt_V r rx f.1 fx
    · exact mem_eqAt rx fx t f.2 u' hu
def inV (x : V) (xs : List V) : Bool := xs.any fun y => eqV y x
def rIn (K : PySem.W.Frag) (neg : Bool) : R2 := fun x y H Q => ∃ p xs, y = .ref p ∧ (SqL K H p xs ∨ SqT K H p xs) ∧ flatV x = true ∧ xs.all flatV = true ∧ Q (.bl (if neg then !inV x xs else inV x xs)) H
theorem op_in_seq : OpR X (compareOp .In) (rIn X.K false) := by
  intro pins s σ H x y v u Q I rx ry h
  obtain ⟨p, xs, rfl, hq, fx, fs, q⟩ := h
  cases ry
  rcases hq with hq | hq
  · obtain ⟨its, r, pl, hz⟩ := I.list hq
    refine SeqAt.in_listAt (eqU x) pl.isList (fun w hw => mem_eqAt rx fx r fs w (by simpa using hw)) ⟨.bl _, H, I, rfl, ?_⟩
    rw [show its.toArray.any (eqU x) = its.any (eqU x) by simp, any_eqU r fs]
    exact q
  · obtain ⟨its, r, pl, hz⟩ := I.tuple hq
    refine SeqAt.in_tupleAt (eqU x) pl (fun w hw => mem_eqAt rx fx r fs w (by simpa using hw)) ⟨.bl _, H, I, rfl, ?_⟩
    rw [show its.toArray.any (eqU x) = its.any (eqU x) by simp, any_eqU r fs]
    exact q
theorem call_len_seq : CallR X (.builtin "len") (fun xs H Q => ∃ p ys, xs = [.ref p] ∧ (SqL X.K H p ys ∨ SqT X.K H p ys) ∧ Q (.int ys.length) H) := by
  intro pins s σ H xs us Q I r h
  obtain ⟨p, ys, rfl, hq, q⟩ := h
  obtain ⟨u, rfl, rx⟩ := vals1 r
  cases rx
  have hn := line63
  rcases hq with hq | hq
  · obtain ⟨its, r', pl, hz⟩ := I.list hq
    have hlen := r'.length
    exact Calls.call_len_list pl.isList (by simp only [List.size_toArray] <;> omega) ⟨.int ys.length, H, I.tok _, ⟨s.toks + 1, by rw [List.size_toArray, hlen]⟩, q⟩
  · obtain ⟨its, r', pl, hz⟩ := I.tuple hq
    have hlen := r'.length
    exact len_tuple pl (by simp only [List.size_toArray] <;> omega) ⟨.int ys.length, H, I.tok _, ⟨s.toks + 1, by rw [List.size_toArray, hlen]⟩, q⟩
theorem call_list_of : CallR X (.type "list") (fun xs H Q => ∃ p ys, xs = [.ref p] ∧ (SqL X.K H p ys ∨ SqT X.K H p ys) ∧ ∀ l, H l = none → Q (.ref l) (upd H l (.lst ys))) := by
  intro pins s σ H xs us Q I r h
  obtain ⟨p, ys, rfl, hq, q⟩ := h
  obtain ⟨u, rfl, rx⟩ := vals1 r
  cases rx
  have fin : ∀ (its : List Value), Vals ys its → ys.length ≤ sizeLine → ∀ (h' : Heap) (c' : Nat), (∀ b o', s.heap.get? b = some o' → h'.get? b = some o') →
      h'.get? s.heap.objs.size = some { cls := .type "list", dict := none, data := .seq its.toArray c', slots := #[] } → EP X pins σ Q (.ref s.heap.objs.size) { s with heap := h' } := fun its r' hz h' c' kp e =>
    ⟨.ref s.heap.objs.size, _, I.laid (t' := s.toks) kp (Nat.le_refl _) (show ObjOk X.prog X.w _ h' _ (.lst ys) from ⟨hz, its, c', r', e⟩), rfl, q _ (I.hok.fresh (Nat.le_refl _))⟩
  rcases hq with hq | hq
  · obtain ⟨its, r', pl, hz⟩ := I.list hq
    have hlen := r'.length
    obtain ⟨o, ho, hc, n, hd⟩ := pl.isList
    exact call_list_seq p (.inl rfl) ho hc hd (fun h' c' kp e => fin its r' hz h' c' kp e) (by simp only [List.size_toArray] <;> omega)
  · obtain ⟨its, r', pl, hz⟩ := I.tuple hq
    have hlen := r'.length
    obtain ⟨o, ho, hc, n, hd⟩ := pl
    exact call_list_seq p (.inr rfl) ho hc hd (fun h' c' kp e => fin its r' hz h' c' kp e) (by simp only [List.size_toArray] <;> omega)
def tyV (K : PySem.W.Frag) (T : String) (x : V) (H : Hp) : Prop := match x with
  | .str _ => T = "str"
  | .int _ => T = "int"
  | .ref p => (T = "list" ∧ ∃ xs, SqL K H p xs) ∨ (T = "tuple" ∧ ∃ o, K.lookup p = some o ∧ o.cls = .type "tuple" ∧ o.dict = none) ∨
      (T = "dict" ∧ ((∃ kvs, H p = some (.dK kvs)) ∨ ∃ kvs, H p = some (.dT kvs))) ∨ (T = "set" ∧ ∃ S n, H p = some (.set S n))
  | _ => False
theorem tyV_is {pins : List (Addr × Obj)} {σ : St} {H : Hp} {s : Shared} {T : String} {x : V} {v : Value} (I : Inv X pins σ H s) (r : RelV x v) (ty : tyV X.K T x H) :
    s.TypeIs v T ∧ ∀ a, v = .ref a → ∃ ob, s.heap.get? a = some ob ∧ ob.dict = none := by
  cases x with
  | str z =>
    obtain ⟨t, rfl⟩ := r
    cases (show T = "str" from ty)
    exact ⟨typeIs_str s z t, fun _ e => nomatch e⟩
  | int i =>
    obtain ⟨t, rfl⟩ := r
    cases (show T = "int" from ty)
    exact ⟨typeIs_int s i t, fun _ e => nomatch e⟩
  | ref p =>
    cases r
    rcases ty with ⟨rfl, xs, hq⟩ | ⟨rfl, o, hk, hc, hd⟩ | ⟨rfl, hk⟩ | ⟨rfl, S, n, hk⟩
    · obtain ⟨its, _, pl, _⟩ := I.list hq
      refine ⟨pl.isList.typeIs, fun a e => ?_⟩
      cases e
      obtain ⟨o, n, e, c, hd, _⟩ := pl
      exact ⟨o, e, hd⟩
    · refine ⟨⟨o, I.kIn p o hk, hc⟩, fun a e => ?_⟩
      cases e
      exact ⟨o, I.kIn _ o hk, hd⟩
    · have z : ∃ o, s.heap.get? p = some o ∧ o.ExactDict := by
        rcases hk with ⟨kvs, hk⟩ | ⟨kvs, hk⟩
        · obtain ⟨_, _, _, _, o, _, _, e, ex, _⟩ := I.hok p _ hk
          exact ⟨o, e, ex⟩
        · obtain ⟨_, _, _, _, o, _, _, e, ex, _⟩ := I.hok p _ hk
          exact ⟨o, e, ex⟩
      obtain ⟨o, e, ex⟩ := z
      refine ⟨⟨o, e, ex.1⟩, fun a e2 => ?_⟩
      cases e2
      exact ⟨o, e, ex.2.1⟩
    · obtain ⟨o, _, _, _, e, ex, _⟩ := I.hok p _ hk
      refine ⟨⟨o, e, ex.1⟩, fun a e2 => ?_⟩
      cases e2
      exact ⟨o, e, ex.2.1⟩
  | _ => exact False.elim ty
def tBM0 (K : PySem.W.Frag) (T : String) (r : V → List V → Hp → VK → Prop) (to : TE) : TE := fun σ H Q => to σ H fun x H1 => tyV K T x H1 ∧ r x [] H1 Q
def tBM (K : PySem.W.Frag) (T : String) (r : V → List V → Hp → VK → Prop) (to : TE) (t : TA) : TE := fun σ H Q => to σ H fun x H1 => tyV K T x H1 ∧ t σ H1 fun xs H2 => r x xs H2 Q
variable {o e : Expr} {es : List Expr} {to : TE} {t : TA} {name : Str} {apos cpos : Pos} {T id : String} {r : V → List V → Hp → VK → Prop}
theorem pe_bm0 (pa : PlainAttrs T) (slot : Slot T name id) (hty : typeOf (.builtin id) = pure (.type "method_descriptor")) (hm : MtR X id r) (ho : PE X o to)
    (hbase : attributeBase o name X.env (eval o X.env) = eval o X.env := by rfl) (hline : (apos.endLine == cpos.line) = true := by rfl) : PE X (.Call (.Attribute o name apos) [] [] cpos) (tBM0 X.K T r to) := by
  intro pins s σ H Q I h
  refine wpAny_Call_method0_late hbase hline (thn (ho pins s σ H _ I h) fun v s1 ⟨x, H1, I1, r1, ty, q1⟩ => ?_)
  obtain ⟨h1, h2⟩ := tyV_is I1 r1 ty
  exact ⟨T, id, pa, slot, hty, h1, h2, Calls.callWith_builtin rfl (PySem.evalArgs_none (hm pins s1 σ H1 x [] v [] Q I1 r1 .nil q1))⟩
theorem pe_bm (pa : PlainAttrs T) (slot : Slot T name id) (hty : typeOf (.builtin id) = pure (.type "method_descriptor")) (hm : MtR X id r) (ho : PE X o to) (ha : PA X (e :: es) t)
    (hbase : attributeBase o name X.env (eval o X.env) = eval o X.env := by rfl)
    (hfew : ((backTo cpos (starEach (e :: es) X.env)).all (fun x => !x.1) && (backToKw cpos (keywordEach [] X.env)).all (fun x => x.1.isSome)
      && decide ((e :: es).length + ([] : List Keyword).length + (if ([] : List Keyword).isEmpty then 0 else 1) < 30)) = true := by rfl)
    (hline : (apos.endLine == cpos.line) = true := by rfl) (hs : starEach (e :: es) X.env = (false, eval e X.env) :: starEach es X.env := by rfl) (hplain : (backTo cpos (starEach es X.env)).any (·.1) = false := by rfl) :
    PE X (.Call (.Attribute o name apos) (e :: es) [] cpos) (tBM X.K T r to t) := by
  intro pins s σ H Q I h
  refine wpAny_Call_method_late hbase hfew hline rfl (thn (ho pins s σ H _ I h) fun v s1 ⟨x, H1, I1, r1, ty, q1⟩ => ?_)
  obtain ⟨h1, h2⟩ := tyV_is I1 r1 ty
  refine ⟨T, id, pa, slot, hty, h1, h2, ?_⟩
  have hA := ha cpos pins s1 σ H1 _ I1 q1
  rw [hs] at hA ⊢
  refine Calls.callWith_builtin (by show (false || (backTo cpos (starEach es X.env)).any (·.1)) = false; rw [hplain] <;> rfl) (Calls.evalArgs_plain ?_)
  exact thn hA fun us s2 ⟨vs, H2, I2, r2, q2⟩ => hm pins s2 σ H2 x vs v us Q I2 r1 r2 q2
end
end L2
namespace L2
open PySem PySem.Spec PyProof.Rows
def MtM (X : Cx) (id : String) (r : V → List V → Hp → VK → Prop) : Prop :=
  ∀ (pins : List (Addr × Obj)) (s : Shared) (σ : St) (H : Hp) (x : V) (xs : List V) (v : Value) (us : List Value) (Q : VK), Inv X pins σ H s → RelV x v → Vals xs us → r x xs H Q →
    wpAny (model X.prog X.w) X.A (call (.builtin id) (v :: us)) (EP X pins σ Q) X.xe s
theorem Vals.one : ∀ {x : V} {us : List Value}, Vals [x] us → ∃ u, us = [u] ∧ RelV x u
  | _, _, .cons r .nil => ⟨_, rfl, r⟩
theorem Vals.zero : ∀ {us : List Value}, Vals [] us → us = []
  | _, .nil => rfl
theorem Vals.reverse {xs : List V} {us : List Value} (h : Vals xs us) : Vals xs.reverse us.reverse := by
  induction h with
  | nil => exact .nil
  | cons r t ih => rw [List.reverse_cons, List.reverse_cons]; exact Vals.append ih (.cons r .nil)
theorem Vals.rep {xs : List V} {us : List Value} (h : Vals xs us) : ∀ k : Nat, Vals (List.replicate k xs).flatten (List.replicate k us).flatten
  | 0 => .nil
  | k + 1 => by
    rw [List.replicate_succ, List.replicate_succ, List.flatten_cons, List.flatten_cons]
    exact Vals.append h (Vals.rep h k)
theorem foldl_rep (its : List Value) : ∀ (k : Nat) (acc : List Value),
    List.foldl (fun x1 x2 => x1 ++ x2) acc.toArray (List.replicate k its.toArray) = (acc ++ (List.replicate k its).flatten).toArray
  | 0, acc => by simp
  | k + 1, acc => by
    have e : acc.toArray ++ its.toArray = (acc ++ its).toArray := by simp
    have e2 : (acc ++ its) ++ (List.replicate k its).flatten = acc ++ (List.replicate (k + 1) its).flatten := by
      rw [List.replicate_succ, List.flatten_cons, List.append_assoc]
    rw [← e2, ← foldl_rep its k (acc ++ its), ← e, List.replicate_succ, List.foldl_cons]
section
variable {X : Cx} {pins : List (Addr × Obj)} {σ : St} {H : Hp} {s : Shared} {l b : Addr} {xs ys zs : List V}
theorem Inv.lset {its its' : List Value} {n : Nat} {f : Array Value → Array Value} {t' : Nat} (I : Inv X pins σ H s) (hH : H l = some (.lst xs))
    (e : s.heap.get? l = some { cls := .type "list", data := .seq its.toArray n }) (hf : f its.toArray = its'.toArray) (hv : Vals ys its') (hz : ys.length ≤ sizeLine) :
    Inv X pins σ (upd H l (.lst ys)) { s with heap := s.heap.update l (Obj.mapSeq f), toks := t' } := by
  have q := PySem.IsL.update e f
  rw [hf] at q
  refine I.write (x := l) (e := l) (by rw [hH]; exact trivial) (.inl rfl) (fun b' u hb hu => (Heap.get?_update_other s.heap (Obj.mapSeq f) (Ne.symm hb)).trans hu) ⟨_, q⟩ ?_
  exact ⟨hz, its', _, hv, q⟩
theorem Inv.lnew {its : List Value} {t' : Nat} (I : Inv X pins σ H s) (hv : Vals ys its) (hz : ys.length ≤ sizeLine) :
    Inv X pins σ (upd H s.heap.objs.size (.lst ys)) { s with heap := s.heap.push { cls := .type "list", data := .seq its.toArray }, toks := t' } :=
  I.laid (fun _ _ q => Heap.get?_push_of_some _ q) (Nat.le_refl _) ⟨hz, its, 0, hv, Heap.get?_push_size _ rfl⟩
theorem Inv.fresh (I : Inv X pins σ H s) : H s.heap.objs.size = none := I.hok.fresh (Nat.le_refl _)
theorem Inv.lstM (I : Inv X pins σ H s) (hH : H l = some (.lst xs)) : xs.length ≤ sizeLine ∧ ∃ (its : List Value) (n : Nat), Vals xs its ∧ xs.length = its.length ∧ s.heap.get? l = some { cls := .type "list", data := .seq its.toArray n } := by
  obtain ⟨z, its, n, r, e⟩ := I.hok l _ hH
  exact ⟨z, its, n, r, r.length, e⟩
theorem notLongL {n : Nat} (h : n ≤ sizeLine) : Builtin.List.listTooLong n = false := by
  unfold Builtin.List.listTooLong
  exact decide_eq_false (by omega)
end
section
variable {X : Cx}
def rAppend : V → List V → Hp → VK → Prop := fun x vs H Q => ∃ l xs y, x = .ref l ∧ vs = [y] ∧ H l = some (.lst xs) ∧ xs.length < sizeLine ∧ Q .non (upd H l (.lst (xs ++ [y])))
theorem mt_append : MtM X "list.append" rAppend := by
  intro pins s σ H x vs v us Q I rx rv h
  obtain ⟨l, xs, y, rfl, rfl, hH, hz, q⟩ := h
  cases rx
  obtain ⟨u, rfl, ru⟩ := rv.one
  obtain ⟨z, its, n, r, hl, e⟩ := I.lstM hH
  refine call_meets F.slot_list_append ⟨_, e, rfl⟩ F.entry_list_append (F.args_list_append_2 _ _) (PySem.list_append l its.toArray n u (by rw [List.size_toArray]; omega)) ⟨e, ?_⟩
  refine ⟨.non, _, I.lset (its' := its ++ [u]) hH e (by simp) (r.append (.cons ru .nil)) ?_, rfl, q⟩
  rw [List.length_append, List.length_singleton]
  omega
def rExtend : V → List V → Hp → VK → Prop := fun x vs H Q => ∃ l b xs zs, x = .ref l ∧ vs = [.ref b] ∧ H l = some (.lst xs) ∧ H b = some (.lst zs) ∧ xs.length + zs.length ≤ sizeLine ∧ Q .non (upd H l (.lst (xs ++ zs)))
theorem mt_extend : MtM X "list.extend" rExtend := by
  intro pins s σ H x vs v us Q I rx rv h
  obtain ⟨l, b, xs, zs, rfl, rfl, hH, hB, hz, q⟩ := h
  cases rx
  obtain ⟨u, rfl, ru⟩ := rv.one
  cases ru
  obtain ⟨z, its, n, r, hl, e⟩ := I.lstM hH
  obtain ⟨z2, its2, n2, r2, hl2, e2⟩ := I.lstM hB
  have hsz : its.toArray.size + its2.toArray.size ≤ sizeLine := by rw [List.size_toArray, List.size_toArray]; omega
  have hlong : ¬ (!its.toArray.isEmpty && Builtin.List.listTooLong (its.toArray.size + its2.toArray.size)) = true := by
    rw [notLongL hsz, Bool.and_false]
    exact Bool.false_ne_true
  refine call_meets F.slot_list_extend ⟨_, e, rfl⟩ F.entry_list_extend (F.args_list_extend_2 _ _)
    (AutoSeq1.list_extend_list_list_0 l its.toArray n b its2.toArray n2 hlong (by rw [List.size_toArray]; omega) (by omega)) ⟨e, e2, ?_⟩
  refine ⟨.non, _, I.lset (its' := its ++ its2) hH e (by simp) (r.append r2) ?_, rfl, q⟩
  rw [List.length_append]
  omega
def rReverse : V → List V → Hp → VK → Prop := fun x vs H Q => ∃ l xs, x = .ref l ∧ vs = [] ∧ H l = some (.lst xs) ∧ Q .non (upd H l (.lst xs.reverse))
theorem mt_reverse : MtM X "list.reverse" rReverse := by
  intro pins s σ H x vs v us Q I rx rv h
  obtain ⟨l, xs, rfl, rfl, hH, q⟩ := h
  cases rx
  have hus := rv.zero
  subst hus
  obtain ⟨z, its, n, r, hl, e⟩ := I.lstM hH
  refine call_meets F.slot_list_reverse ⟨_, e, rfl⟩ F.entry_list_reverse (F.args_list_reverse_1 _) (AutoSeq1.list_reverse_list_0 l its.toArray n (by rw [List.size_toArray]; omega)) ⟨e, ?_⟩
  refine ⟨.non, _, I.lset (its' := its.reverse) hH e (by simp) r.reverse ?_, rfl, q⟩
  rw [List.length_reverse]
  omega
def rCat : R2 := fun x y H Q => ∃ l b xs zs, x = .ref l ∧ y = .ref b ∧ H l = some (.lst xs) ∧ H b = some (.lst zs) ∧ xs.length + zs.length ≤ sizeLine ∧ ∀ p, H p = none → Q (.ref p) (upd H p (.lst (xs ++ zs)))
theorem op_cat : OpR X (binaryOp .Add) rCat := by
  intro pins s σ H x y v u Q I rx ry h
  obtain ⟨l, b, xs, zs, rfl, rfl, hH, hB, hz, q⟩ := h
  cases rx
  cases ry
  obtain ⟨z, its, n, r, hl, e⟩ := I.lstM hH
  obtain ⟨z2, its2, n2, r2, hl2, e2⟩ := I.lstM hB
  refine PySem.P.add_list e e2 ?_ (by rw [List.size_toArray, List.size_toArray]; omega)
  have ea : its.toArray ++ its2.toArray = (its ++ its2).toArray := by simp
  rw [ea]
  exact ⟨.ref _, _, I.lnew (t' := s.toks) (r.append r2) (by rw [List.length_append]; omega), rfl, q _ I.fresh⟩
def rRep : R2 := fun x y H Q => ∃ l k xs, x = .ref l ∧ y = .int k ∧ H l = some (.lst xs) ∧ -(2 ^ 63) ≤ k ∧ k < 2 ^ 63 ∧ xs.length * k.toNat ≤ sizeLine ∧
  ∀ p, H p = none → Q (.ref p) (upd H p (.lst (List.replicate k.toNat xs).flatten))
theorem len_rep {α : Type} (xs : List α) (k : Nat) : (List.replicate k xs).flatten.length = k * xs.length := by
  induction k with
  | zero => simp
  | succ k ih => rw [List.replicate_succ, List.flatten_cons, List.length_append, ih, Nat.succ_mul, Nat.add_comm]
theorem op_rep : OpR X (binaryOp .Mult) rRep := by
  intro pins s σ H x y v u Q I rx ry h
  obtain ⟨l, k, xs, rfl, rfl, hH, h1, h2, hz, q⟩ := h
  cases rx
  obtain ⟨t, rfl⟩ := ry
  obtain ⟨z, its, n, r, hl, e⟩ := I.lstM hH
  have hlen : its.toArray.size * k.toNat ≤ sizeLine := by rw [List.size_toArray, ← hl]; exact hz
  have hcap : ¬ its.toArray.size * k.toNat > (2 ^ 63 - 1) / 8 := by
    have : (sizeLine : Nat) ≤ (2 ^ 63 - 1) / 8 := by decide
    omega
  have hfit : ¬ (!Builtin.List.listFitsIndex k) = true := by
    rw [fitsIndex_both h1 h2]
    exact Bool.false_ne_true
  have hlong : ¬ Builtin.List.listTooLong (its.toArray.size * k.toNat) = true := by
    rw [notLongL hlen]
    exact Bool.false_ne_true
  have hnew : List.foldl (fun x1 x2 => x1 ++ x2) #[] (List.replicate (if its.toArray.isEmpty = true then 0 else k.toNat) its.toArray) = (List.replicate k.toNat its).flatten.toArray := by
    have f0 : ∀ m : Nat, List.foldl (fun x1 x2 => x1 ++ x2) #[] (List.replicate m its.toArray) = (List.replicate m its).flatten.toArray := fun m => by
      have := foldl_rep its m []
      rw [List.nil_append] at this
      exact this
    rw [f0]
    cases its with
    | nil => simp
    | cons a r' => rw [if_neg (by simp)]
  refine wpAny_binaryOp_repeat_ref (T := "list") (U := "int") (by decide) ⟨_, e, rfl⟩ (fun s' => typeIs_int s' k t) noFill_list_mul F.fills_int_mul F.slot_int_rmul repeat_list F.slot_int_index.lookup
    (call_meets F.slot_int_rmul (typeIs_int s k t) F.entry_int_rmul (F.args_int_rmul_2 _ _) (int___rmul___int_list k t l its.toArray n)
      ⟨e, rfl, ⟨_, e, rfl⟩, call_meets F.slot_list_mul ⟨_, e, rfl⟩ F.entry_list_mul (F.args_list_mul_2 _ _) (AutoListH.list___mul___list_int_3 l its.toArray n k t hfit hcap hlong) ⟨e, ?_⟩⟩)
  rw [hnew]
  exact ⟨.ref _, _, I.lnew (t' := s.toks) (r.rep k.toNat) (by rw [len_rep, Nat.mul_comm]; exact hz), rfl, q _ I.fresh⟩
end
section
variable {prog : Program} {w : World} {A : Around} {E : Value → Shared → Prop} {s : Shared}
end
section
variable {X : Cx}
end
end L2
namespace L2
open PySem PySem.Spec PyProof.Rows
section
variable {prog : Program} {w : World} {A : Around} {E : Value → Shared → Prop} {s : Shared} {l : Addr} {its : List Value} {ns : List Int} {Q : Value → Shared → Prop}
end
section
variable {X : Cx}
end
section
variable {X : Cx}
def rIndex (K : PySem.W.Frag) : V → List V → Hp → VK → Prop := fun x xs H Q => ∃ (a : Addr) (ys : List V) (y : V) (j : Nat) (z : V), x = V.ref a ∧ xs = [y] ∧ SqL K H a ys ∧ flatV y = true ∧ ys.all flatV = true ∧ ys[j]? = some z ∧ eqV z y = true ∧
  (∀ (m : Nat) (z' : V), m < j → ys[m]? = some z' → eqV z' y = false) ∧ Q (.int (j : Nat)) H
theorem flat_at {ys : List V} (f : ys.all flatV = true) {j : Nat} {z : V} (h : ys[j]? = some z) : flatV z = true := List.all_eq_true.mp f z (List.mem_of_getElem? h)
theorem mt_index : MtR X "list.index" (rIndex X.K) := by
  intro pins s σ H x xs v us Q I rx rxs h
  obtain ⟨a, ys, y, j, z, rfl, rfl, hs, fy, fys, hz, hzj, hno, q⟩ := h
  cases rx
  cases rxs with
  | cons ry rt =>
    rename_i uy ut
    cases rt
    obtain ⟨its, rv, ⟨⟨cls, dd, data, sl⟩, n, ho, hc, hdn, hd⟩, hlen⟩ := I.list hs
    simp only at hc hd
    subst hc hd
    obtain ⟨u, hu, ru⟩ := rv.get hz
    obtain ⟨hjl, hje⟩ := List.getElem?_eq_some_iff.mp hu
    have hvl := rv.length
    have hj : j < its.toArray.size := by simpa using hjl
    have hsl := sizeLine_eq
    refine call_meets PySem.F.slot_list_index ⟨_, ho, rfl⟩ PySem.F.entry_list_index (PySem.F.args_list_index_2 _ _)
      (SeqAt.list_indexAt a its.toArray n dd sl uy (eqU y) j hj (by omega) ?_ ?_) ⟨ho, fun u' hu' => mem_eqAt ry fy rv fys u' (by simpa using hu'), ?_⟩
    · have e1 : its.toArray[j] = u := by simpa using hje
      rw [e1, eqU_of ru (flat_at fys hz)]
      exact hzj
    · intro m hm hmj
      have hml : m < its.length := by simpa using hm
      have hmy : m < ys.length := by omega
      have hy' : ys[m]? = some ys[m] := List.getElem?_eq_getElem hmy
      obtain ⟨u2, hu2, ru2⟩ := rv.get hy'
      obtain ⟨_, hme⟩ := List.getElem?_eq_some_iff.mp hu2
      have e1 : its.toArray[m] = u2 := by simpa using hme
      rw [e1, eqU_of ru2 (flat_at fys hy')]
      exact hno m _ hmj hy'
    · exact ⟨.int (j : Nat), H, I.tok _, ⟨_, rfl⟩, q⟩
end
section
variable {X : Cx}
end
section
variable {X : Cx}
end
mutual
inductive Dp (K : PySem.W.Frag) (H : Hp) : V → PyData → Prop
  | non : Dp K H .non .none
  | bl (b : Bool) : Dp K H (.bl b) (.bool b)
  | int (i : Int) : Dp K H (.int i) (.int i)
  | str (x : Str) : Dp K H (.str x) (.str x)
  | lst {a : Addr} {xs : List V} {ds : List PyData} : SqL K H a xs → DpAll K H xs ds → Dp K H (.ref a) (.list ds)
  | tup {a : Addr} {xs : List V} {ds : List PyData} : SqT K H a xs → DpAll K H xs ds → Dp K H (.ref a) (.tuple ds)
inductive DpAll (K : PySem.W.Frag) (H : Hp) : List V → List PyData → Prop
  | nil : DpAll K H [] []
  | cons {v : V} {vs : List V} {d : PyData} {ds : List PyData} : Dp K H v d → DpAll K H vs ds → DpAll K H (v :: vs) (d :: ds)
end
section
variable {X : Cx} {pins : List (Addr × Obj)} {σ : St} {H : Hp} {s : Shared}
mutual
theorem Dp.reads (I : Inv X pins σ H s) : ∀ (d : PyData) (v : V) (u : Value), Dp X.K H v d → RelV v u → ∃ as, Reads s.heap u d as
  | .none, _, _, h, r => by
    cases h
    cases r
    exact ⟨_, Reads.none⟩
  | .bool b, _, _, h, r => by
    cases h
    cases r
    exact ⟨_, Reads.bool b⟩
  | .int i, _, _, h, r => by
    cases h
    obtain ⟨t, rfl⟩ := r
    exact ⟨_, Reads.int i t⟩
  | .str x, _, _, h, r => by
    cases h
    obtain ⟨t, rfl⟩ := r
    exact ⟨_, Reads.str x t⟩
  | .list ds, _, _, h, r => by
    cases h with
    | lst hs ha =>
      cases r
      obtain ⟨its, rv, ⟨o, n, ho, hc, _, hd⟩, _⟩ := I.list hs
      obtain ⟨as, hr⟩ := Dp.readsAll I ds _ its ha rv
      exact ⟨_, Reads.list ho hc hd hr⟩
  | .tuple ds, _, _, h, r => by
    cases h with
    | tup hs ha =>
      cases r
      obtain ⟨its, rv, ⟨o, ho, hc, n, hd⟩, _⟩ := I.tuple hs
      obtain ⟨as, hr⟩ := Dp.readsAll I ds _ its ha rv
      exact ⟨_, Reads.tuple ho hc hd hr⟩
  | .dict _, _, _, h, _ => by cases h
theorem Dp.readsAll (I : Inv X pins σ H s) : ∀ (ds : List PyData) (vs : List V) (us : List Value), DpAll X.K H vs ds → Vals vs us → ∃ as, ReadsAll s.heap us ds as
  | [], _, _, h, r => by
    cases h
    cases r
    exact ⟨_, ReadsAll.nil⟩
  | d :: ds, _, _, h, r => by
    cases h with
    | cons h1 h2 =>
      cases r with
      | cons r1 r2 =>
        obtain ⟨as, q1⟩ := Dp.reads I d _ _ h1 r1
        obtain ⟨bs, q2⟩ := Dp.readsAll I ds _ _ h2 r2
        exact ⟨_, ReadsAll.cons q1 q2⟩
end
end
section
variable {X : Cx}
end
end L2
namespace L2
open PySem PySem.Spec PyProof.Rows
abbrev CellAt (h : Heap) (c : Addr) (v : Option Value) : Prop := h.IsCell c v
def relS (scope sc : Scope) : Scope :=
  { scope with names := scope.names.map fun (n, k) => if (k == .free && sc.kind == .function && sc.names.lookup n == some .cell) then (n, .cell) else (n, k) }
def cloFrom (cells : List (Str × Addr)) : List (Str × NameKind) → List (Str × Addr) → List (Str × Addr)
  | [], acc => acc
  | (n, k) :: r, acc => if k == .free then cloFrom cells r ((n, (cells.lookup n).getD 0) :: acc) else cloFrom cells r acc
theorem closure_loop (env : Env) (f : Str × NameKind → List (Str × Addr) → Sem (ForInStep (List (Str × Addr))))
    (hf : ∀ n k c, f (n, k) c = if k == .free then (do let a ← cellOf env n; pure (.yield ((n, a) :: c))) else pure (.yield c)) :
    ∀ (names : List (Str × NameKind)) (acc : List (Str × Addr)), (∀ y ∈ names, y.2 = .free → ∃ c, env.cells.lookup y.1 = some c) → forIn names acc f = pure (cloFrom env.cells names acc)
  | [], acc, _ => by rw [List.forIn_nil]; rfl
  | (n, k) :: r, acc, h => by
    rw [List.forIn_cons, hf]
    have ih := fun acc => closure_loop env f hf r acc fun y hy => h y (List.mem_cons_of_mem _ hy)
    unfold cloFrom
    by_cases hk : (k == NameKind.free) = true
    · rw [if_pos hk, if_pos hk]
      obtain ⟨c, hc⟩ := h (n, k) List.mem_cons_self (by simpa using hk)
      have e : cellOf env n = pure c := by unfold cellOf; rw [hc]
      rw [e]
      have e2 : (env.cells.lookup n).getD 0 = c := by rw [hc]; rfl
      rw [e2]
      exact ih _
    · rw [if_neg hk, if_neg hk]
      exact ih _
theorem closure_ok {scope : Scope} {env : Env} (h : ∀ y ∈ scope.names, y.2 = .free → ∃ c, env.cells.lookup y.1 = some c) : closureFor scope env = pure (cloFrom env.cells scope.names []) := by
  simp only [closureFor]
  rw [closure_loop env _ (fun n k c => rfl) scope.names [] h]
  rfl
theorem mem_lookup {α : Type} : ∀ {l : List (Str × α)} {n : Str} {c : α}, (n, c) ∈ l → ∃ c', l.lookup n = some c'
  | (k, v) :: r, n, c, h => by
    rw [List.lookup_cons]
    cases hb : n == k with
    | true => exact ⟨_, rfl⟩
    | false =>
      rcases List.mem_cons.mp h with e | h
      · cases e; simp at hb
      · exact mem_lookup h
theorem cloFrom_mem {cells : List (Str × Addr)} : ∀ {names : List (Str × NameKind)} {acc : List (Str × Addr)} {n : Str} {c : Addr}, (n, c) ∈ cloFrom cells names acc → (n, c) ∈ acc ∨ ((n, .free) ∈ names ∧ c = (cells.lookup n).getD 0)
  | [], _, _, _, h => .inl h
  | (m, k) :: r, acc, n, c, h => by
    unfold cloFrom at h
    split at h
    · rename_i hk
      have hk : k = .free := by simpa using hk
      rcases cloFrom_mem h with h | ⟨h1, h2⟩
      · rcases List.mem_cons.mp h with e | h
        · cases e; exact .inr ⟨hk ▸ List.mem_cons_self, rfl⟩
        · exact .inl h
      · exact .inr ⟨List.mem_cons_of_mem _ h1, h2⟩
    · rcases cloFrom_mem h with h | ⟨h1, h2⟩
      · exact .inl h
      · exact .inr ⟨List.mem_cons_of_mem _ h1, h2⟩
theorem cloFrom_acc {cells : List (Str × Addr)} : ∀ {names : List (Str × NameKind)} {acc : List (Str × Addr)} {p : Str × Addr}, p ∈ acc → p ∈ cloFrom cells names acc
  | [], _, _, h => h
  | (m, k) :: r, acc, p, h => by
    unfold cloFrom
    split
    · exact cloFrom_acc (List.mem_cons_of_mem _ h)
    · exact cloFrom_acc h
theorem cloFrom_has {cells : List (Str × Addr)} : ∀ {names : List (Str × NameKind)} {acc : List (Str × Addr)} {n : Str}, (n, .free) ∈ names → (n, (cells.lookup n).getD 0) ∈ cloFrom cells names acc
  | (m, k) :: r, acc, n, h => by
    unfold cloFrom
    rcases List.mem_cons.mp h with e | h
    · cases e
      exact cloFrom_acc List.mem_cons_self
    · split
      · exact cloFrom_has h
      · exact cloFrom_has h
theorem cells_mem : ∀ {names : List (Str × NameKind)} {h : Heap} {acc : List (Str × Addr)} {x : Str} {c : Addr}, (x, c) ∈ cellsFrom h.objs.size names acc →
    (x, c) ∈ acc ∨ ((x, .cell) ∈ names ∧ h.objs.size ≤ c ∧ CellAt (pushCells h names) c none)
  | [], _, _, _, _, h => .inl h
  | (n, k) :: r, h, acc, x, c, hm => by
    unfold cellsFrom at hm
    unfold pushCells
    split at hm
    · rename_i hk
      rw [if_pos hk]
      have hk : k = .cell := by simpa using hk
      rw [← Heap.size_push h { cls := .type "cell", data := .cell none }] at hm
      rcases cells_mem hm with hm | ⟨h1, h2, h3⟩
      · rcases List.mem_cons.mp hm with e | hm
        · cases e
          exact .inr ⟨hk ▸ List.mem_cons_self, Nat.le_refl _, _, pushCells_keeps r _ _ _ (Heap.get?_push_size _ rfl), rfl⟩
        · exact .inl hm
      · rw [Heap.size_push] at h2
        exact .inr ⟨List.mem_cons_of_mem _ h1, Nat.le_of_succ_le h2, h3⟩
    · rename_i hk
      rw [if_neg hk]
      rcases cells_mem hm with hm | ⟨h1, h2, h3⟩
      · exact .inl hm
      · exact .inr ⟨List.mem_cons_of_mem _ h1, h2, h3⟩
theorem cells_acc : ∀ {names : List (Str × NameKind)} {n : Nat} {acc : List (Str × Addr)} {p : Str × Addr}, p ∈ acc → p ∈ cellsFrom n names acc
  | [], _, _, _, h => h
  | (m, k) :: r, n, acc, p, h => by
    unfold cellsFrom
    split
    · exact cells_acc (List.mem_cons_of_mem _ h)
    · exact cells_acc h
theorem cells_has : ∀ {names : List (Str × NameKind)} {n : Nat} {acc : List (Str × Addr)} {x : Str}, (x, .cell) ∈ names → ∃ c, (x, c) ∈ cellsFrom n names acc
  | (m, k) :: r, n, acc, x, h => by
    unfold cellsFrom
    rcases List.mem_cons.mp h with e | h
    · cases e
      exact ⟨n, cells_acc List.mem_cons_self⟩
    · split
      · exact cells_has h
      · exact cells_has h
theorem cells_inj : ∀ {names : List (Str × NameKind)} {h : Heap} {acc : List (Str × Addr)} {x y : Str} {c : Addr}, (∀ p ∈ acc, p.2 < h.objs.size) → (∀ x y c, (x, c) ∈ acc → (y, c) ∈ acc → x = y) →
    (x, c) ∈ cellsFrom h.objs.size names acc → (y, c) ∈ cellsFrom h.objs.size names acc → x = y
  | [], _, _, _, _, _, _, hi, h1, h2 => hi _ _ _ h1 h2
  | (n, k) :: r, h, acc, x, y, c, hl, hi, h1, h2 => by
    unfold cellsFrom at h1 h2
    split at h1
    · rename_i hk
      rw [if_pos hk] at h2
      rw [← Heap.size_push h { cls := .type "cell", data := .cell none }] at h1 h2
      refine cells_inj (h := h.push _) (fun p hp => ?_) (fun x y c a b => ?_) h1 h2
      · rw [Heap.size_push]
        rcases List.mem_cons.mp hp with rfl | hp
        · exact Nat.lt_succ_self _
        · exact Nat.lt_succ_of_lt (hl p hp)
      · rcases List.mem_cons.mp a with e | a <;> rcases List.mem_cons.mp b with e' | b
        · cases e; cases e'; rfl
        · cases e; exact absurd (hl _ b) (Nat.lt_irrefl _)
        · cases e'; exact absurd (hl _ a) (Nat.lt_irrefl _)
        · exact hi _ _ _ a b
    · rename_i hk
      rw [if_neg hk] at h2
      exact cells_inj hl hi h1 h2
theorem newEnv_comp {M : Model} {A : Around} {E : Value → Shared → Prop} {s : Shared} {scope : Scope} {globals : Addr} {closure : List (Str × Addr)} {qual : Str} {func : Option Addr} {code : Value} {around : Env} {builtins : Addr} {Q : Env → Shared → Prop}
    (h : Q (newEnv scope s.heap.objs.size globals (cellsFrom (s.heap.objs.size + 1) scope.names closure) qual func code (some around) builtins)
      { s with heap := pushCells (s.heap.push { cls := .type "dict", data := .dict #[] }) scope.names }) :
    wpAny M A (newFunctionEnv scope globals closure [] qual func code (some around) builtins) Q E s := by
  simp only [newFunctionEnv, Option.isSome_some, if_true]
  refine wpAny_bind (wpAny_alloc ?_)
  refine wpAny_bind (wpAny_layCells _ (fun n k c => rfl) scope.names closure _ _ ?_)
  rw [show ({ s with heap := s.heap.push { cls := .type "dict", data := .dict #[] } } : Shared).heap.objs.size = s.heap.objs.size + 1 from Heap.size_push ..]
  rw [List.forIn_nil]
  exact wpAny_bind (wpAny_pure (wpAny_pure h))
theorem lookup_relS {sc : Scope} : ∀ {names : List (Str × NameKind)} {x : Str} {k : NameKind},
    (names.map fun (n, k) => if (k == NameKind.free && sc.kind == .function && sc.names.lookup n == some .cell) then (n, NameKind.cell) else (n, k)).lookup x = some k →
    ∃ k', names.lookup x = some k' ∧ (k = k' ∨ (k' = .free ∧ k = .cell))
  | [], _, _, h => by simp at h
  | (n, k₀) :: r, x, k, h => by
    have ih := @lookup_relS sc r x k
    have h' : List.lookup x ((if (k₀ == NameKind.free && sc.kind == .function && sc.names.lookup n == some .cell) = true then (n, NameKind.cell) else (n, k₀)) :: (r.map _)) = some k := h
    cases hx : x == n with
    | true =>
      simp only [List.lookup_cons, hx]
      by_cases hc : (k₀ == NameKind.free && sc.kind == .function && sc.names.lookup n == some .cell) = true
      · rw [if_pos hc] at h'
        simp only [List.lookup_cons, hx] at h'
        cases h'
        simp only [Bool.and_eq_true, beq_iff_eq] at hc
        exact ⟨k₀, rfl, .inr ⟨hc.1.1, rfl⟩⟩
      · rw [if_neg hc] at h'
        simp only [List.lookup_cons, hx] at h'
        cases h'
        exact ⟨_, rfl, .inl rfl⟩
    | false =>
      simp only [List.lookup_cons, hx]
      by_cases hc : (k₀ == NameKind.free && sc.kind == .function && sc.names.lookup n == some .cell) = true
      · rw [if_pos hc] at h'
        simp only [List.lookup_cons, hx] at h'
        exact ih h'
      · rw [if_neg hc] at h'
        simp only [List.lookup_cons, hx] at h'
        exact ih h'
structure BlkOk (N : List Str) (sc scope : Scope) (own : List (Str × Nat)) : Prop where
  kind : scope.kind = .function
  uniq : ∀ y ∈ scope.names, scope.names.lookup y.1 = some y.2
  ix : ∀ p ∈ own, N[p.2]? = some p.1
  free : ∀ y ∈ scope.names, y.2 = .free → sc.names.lookup y.1 = some .cell ∨ sc.names.lookup y.1 = some .free
  own : ∀ y ∈ scope.names, y.2 = .local ∨ y.2 = .cell → y.1 ∈ own.map (·.1) ∨ y.1 ∉ N
def wipe (σ : St) : List Nat → St
  | [] => σ
  | v :: vs => (wipe σ vs).set v none
theorem wipe_length (σ : St) : ∀ vs : List Nat, (wipe σ vs).length = σ.length
  | [] => rfl
  | v :: vs => by unfold wipe; rw [List.length_set, wipe_length σ vs]
theorem wipe_some {σ : St} {i : Nat} {x : V} : ∀ {vs : List Nat}, (wipe σ vs)[i]? = some (some x) → σ[i]? = some (some x) ∧ i ∉ vs
  | [], h => ⟨h, by simp⟩
  | v :: vs, h => by
    unfold wipe at h
    by_cases hi : v = i
    · subst hi
      by_cases hv : v < (wipe σ vs).length
      · rw [List.getElem?_set_self hv] at h; cases h
      · rw [List.getElem?_eq_none (by simpa using hv)] at h; cases h
    · rw [List.getElem?_set_ne hi] at h
      obtain ⟨h1, h2⟩ := wipe_some h
      exact ⟨h1, by simp only [List.mem_cons, not_or]; exact ⟨fun e => hi e.symm, h2⟩⟩
abbrev Cx.blk (X : Cx) (s : Shared) (H : Hp) (scope : Scope) (cenv : Env) (fp : List Addr) : Cx := { X with s_0 := s, H_0 := H, env := cenv, outer := X.stack, ex := fp, fn := fun x => scope.names.lookup x == some .cell, pn := [], xe := fun _ _ => False }
section
variable {X : Cx} {pins : List (Addr × Obj)} {σ : St} {H : Hp} {s : Shared}
theorem block_start {scope : Scope} {own : List (Str × Nat)} {fp : List Addr} (I : Inv X pins σ H s) (ok : BlkOk X.N X.env.scope scope own) (hN : X.N.Nodup) (hfp : ∀ b ∈ fp, FpOk X pins H b ∧ b < s.heap.objs.size) :
    Inv (X.blk s H scope (compEnvC scope (cellsFrom (s.heap.objs.size + 1) scope.names (cloFrom X.env.cells scope.names [])) s.heap.objs.size X.env) fp) [] (wipe σ (own.map (·.2))) H { s with heap := pushCells (s.heap.push { cls := .type "dict", data := .dict #[] }) scope.names } := by
  have hfree : ∀ y ∈ scope.names, y.2 = .free → ∃ c, X.env.cells.lookup y.1 = some c := fun y hy e => by
    rcases ok.free y hy e with k | k
    · exact I.ok.has _ (.inl k)
    · exact I.ok.has _ (.inr k)
  generalize hcenv : compEnvC scope (cellsFrom (s.heap.objs.size + 1) scope.names (cloFrom X.env.cells scope.names [])) s.heap.objs.size X.env = cenv
  have kp : ∀ b o, s.heap.get? b = some o → (pushCells (s.heap.push { cls := .type "dict", data := .dict #[] }) scope.names).get? b = some o := fun b o e => pushCells_keeps _ _ _ _ (Heap.get?_push_of_some _ e)
  have hL : cenv.locals = s.heap.objs.size := by rw [← hcenv]; rfl
  have hcl : cenv.cells = cellsFrom (s.heap.objs.size + 1) scope.names (cloFrom X.env.cells scope.names []) := by rw [← hcenv]; rfl
  have hsc : cenv.scope = relS scope X.env.scope := by rw [← hcenv]; rfl
  rw [← Heap.size_push s.heap { cls := .type "dict", data := .dict #[] }] at hcl
  have cm : ∀ {y c}, (y, c) ∈ cloFrom X.env.cells scope.names [] → X.env.cells.lookup y = some c ∧ c < s.heap.objs.size := fun {y c} hm => by
    rcases cloFrom_mem hm with hm | ⟨h1, rfl⟩
    · cases hm
    · obtain ⟨c, hc⟩ := hfree _ h1 rfl
      rw [hc]
      obtain ⟨w, z⟩ := I.cell _ _ hc
      exact ⟨rfl, z.lt⟩
  have mem : ∀ {y c}, cenv.cells.lookup y = some c → (X.env.cells.lookup y = some c ∧ c < s.heap.objs.size) ∨ (s.heap.objs.size + 1 ≤ c ∧ CellAt (pushCells (s.heap.push { cls := .type "dict", data := .dict #[] }) scope.names) c none) := fun {y c} e => by
    rw [hcl] at e
    rcases cells_mem (PySem.mem_of_lookup e) with hm | ⟨_, h2, h3⟩
    · exact .inl (cm hm)
    · rw [Heap.size_push] at h2; exact .inr ⟨h2, h3⟩
  have look : ∀ {y}, scope.names.lookup y = some .free → ∃ c, cenv.cells.lookup y = some c ∧ X.env.cells.lookup y = some c := fun {y} hl => by
    have hy : (y, NameKind.free) ∈ scope.names := PySem.mem_of_lookup hl
    obtain ⟨c', e'⟩ := mem_lookup (cells_acc (names := scope.names) (n := (s.heap.push { cls := .type "dict", data := .dict #[] }).objs.size) (cloFrom_has (cells := X.env.cells) (acc := []) hy))
    rw [← hcl] at e'
    refine ⟨c', e', ?_⟩
    rw [hcl] at e'
    rcases cells_mem (PySem.mem_of_lookup e') with hm | ⟨h1, _, _⟩
    · exact (cm hm).1
    · have := ok.uniq _ h1
      rw [hl] at this; cases this
  have okB : (X.blk s H scope cenv fp).Ok := by
    refine ⟨I.ok.mod, by show cenv.scope.kind = _; rw [hsc]; exact ok.kind, by show cenv.globals = _; rw [← hcenv]; exact I.ok.glob, by show cenv.builtins = _; rw [← hcenv]; exact I.ok.blt, by show s.heap.objs.size ≤ cenv.locals; rw [hL]; exact Nat.le_refl _,
      fun y z c e1 e2 => ?_, fun y hy => ?_, fun y c z e => ?_, I.ok.hd, I.ok.frames, .inl rfl, fun b hb => ⟨?_, fun y c e z => ?_⟩, I.bs, Nat.le_trans I.ok.bsz I.sz, fun b o e hb => ?_, fun b hb z => ?_, I.stack, I.stkFree⟩
    · have e1 : cenv.cells.lookup y = some c := e1
      have e2 : cenv.cells.lookup z = some c := e2
      rw [hcl] at e1 e2
      refine cells_inj (fun p hp => ?_) (fun y z c a b => I.ok.inj y z c (cm a).1 (cm b).1) (PySem.mem_of_lookup e1) (PySem.mem_of_lookup e2)
      rw [Heap.size_push]
      exact Nat.lt_succ_of_lt (cm (y := p.1) (c := p.2) hp).2
    · show ∃ c, cenv.cells.lookup y = some c
      have key : ∀ k, cenv.kindOf y = some k → (k = .cell ∨ k = .free) → ∃ c, cenv.cells.lookup y = some c := fun k hk hk' => by
        unfold Env.kindOf at hk
        rw [hsc] at hk
        obtain ⟨k', e, r⟩ := lookup_relS hk
        have : k' = .cell ∨ k' = .free := by
          rcases r with rfl | ⟨rfl, _⟩
          · exact hk'
          · exact .inr rfl
        rcases this with rfl | rfl
        · obtain ⟨c, hm⟩ := cells_has (n := (s.heap.push { cls := .type "dict", data := .dict #[] }).objs.size) (acc := cloFrom X.env.cells scope.names []) (PySem.mem_of_lookup e)
          obtain ⟨c', e'⟩ := mem_lookup hm
          exact ⟨c', by rw [hcl]; exact e'⟩
        · obtain ⟨c, h1, _⟩ := look e
          exact ⟨c, h1⟩
      rcases hy with hy | hy
      · exact key _ hy (.inl rfl)
      · exact key _ hy (.inr rfl)
    · have z : (scope.names.lookup y == some NameKind.cell) = true := z
      have z : scope.names.lookup y = some .cell := by simpa using z
      have e : cenv.cells.lookup y = some c := e
      rw [hcl] at e
      rcases cells_mem (PySem.mem_of_lookup e) with hm | ⟨_, h2, _⟩
      · rcases cloFrom_mem hm with hm | ⟨h1, _⟩
        · cases hm
        · have q := ok.uniq _ h1
          rw [z] at q; cases q
      · rw [Heap.size_push] at h2
        exact Nat.le_of_succ_le h2
    · show b ≠ cenv.locals
      rw [hL]; exact Nat.ne_of_lt (hfp b hb).2
    · have e : cenv.cells.lookup y = some c := e
      rcases mem e with ⟨h1, _⟩ | ⟨h1, _⟩
      · exact (hfp b hb).1.2.2.2.2.1 y c h1 z
      · have h2 : s.heap.objs.size + 1 ≤ b := by rw [← z]; exact h1
        exact absurd (Nat.lt_of_lt_of_le (hfp b hb).2 (Nat.le_of_succ_le h2)) (Nat.lt_irrefl _)
    · rcases (hfp b hb).1.2.2.2.1 with z | z
      · exact I.ok.noex b o e z
      · exact absurd (Nat.lt_of_lt_of_le (Heap.lt_size e) (Nat.le_trans I.ok.bsz z)) (Nat.lt_irrefl _)
    · rcases List.mem_cons.mp (I.stkSub b z) with z | z
      · exact (hfp b hb).1.2.1 z
      · exact (hfp b hb).1.2.2.1 z
  refine ⟨okB, rfl, I.bare, Un.kept kp, ⟨fun _ => none, ?_, fun i y av e1 e2 e3 => ?_⟩, fun y c e => ?_, ?_, fun y c e => ?_, fun p hp => ?_, I.hok.kept kp, by rw [wipe_length]; exact I.len⟩
  · show Heap.Ns _ cenv.locals _
    rw [hL]
    exact Heap.Ns.keeps (Heap.Ns.new ..) fun b o e => pushCells_keeps _ _ _ _ e
  · obtain ⟨e2, hne⟩ := wipe_some e2
    have hfr : scope.names.lookup y = some .free ∧ (cenv.kindOf y = some .cell ∨ cenv.kindOf y = some .free) := by
      have key : ∀ k, cenv.scope.names.lookup y = some k → k = .local ∨ k = .cell ∨ k = .free → scope.names.lookup y = some .free ∧ (cenv.kindOf y = some .cell ∨ cenv.kindOf y = some .free) := fun k hk hk' => by
        have hk0 := hk
        rw [hsc] at hk
        obtain ⟨k', e, r⟩ := lookup_relS hk
        have no : ¬ (k' = .local ∨ k' = .cell) := fun hh => by
          rcases ok.own _ (PySem.mem_of_lookup e) hh with e' | e'
          · obtain ⟨p, hp, hpy⟩ := List.mem_map.mp e'
            have e3 := ok.ix p hp
            have : p.1 = y := hpy
            rw [this] at e3
            exact hne (List.mem_map.mpr ⟨p, hp, nodup_ix hN e3 e1⟩)
          · exact e' (List.mem_of_getElem? e1)
        rcases r with rfl | ⟨rfl, rfl⟩
        · rcases hk' with rfl | rfl | rfl
          · exact absurd (.inl rfl) no
          · exact absurd (.inr rfl) no
          · exact ⟨e, .inr hk0⟩
        · exact ⟨e, .inl hk0⟩
      have e3 : Vis cenv.scope y := e3
      rcases e3 with e3 | e3 | e3
      · exact key _ e3 (.inl rfl)
      · exact key _ e3 (.inr (.inl rfl))
      · exact key _ e3 (.inr (.inr rfl))
    obtain ⟨m, hn, hl⟩ := I.loc
    have hvis : Vis X.env.scope y := (ok.free _ (PySem.mem_of_lookup hfr.1) rfl).elim (fun k => .inr (.inl k)) (fun k => .inr (.inr k))
    obtain ⟨w, r, q⟩ := hl i y av e1 e2 hvis
    refine ⟨w, r, .inr ⟨hfr.2, ?_⟩⟩
    obtain ⟨c, h1, h2⟩ := look hfr.1
    rcases q with ⟨k, _⟩ | ⟨_, c', e', z⟩
    · have k : X.env.scope.names.lookup y = some .local := k
      rcases ok.free _ (PySem.mem_of_lookup hfr.1) rfl with k' | k' <;> rw [show X.env.scope.names.lookup y = _ from k'] at k <;> cases k
    · rw [h2] at e'; cases e'
      exact ⟨c, h1, z.keeps kp⟩
  · have e : cenv.cells.lookup y = some c := e
    rcases mem e with ⟨h1, _⟩ | ⟨_, z⟩
    · obtain ⟨w, z⟩ := I.cell y c h1
      exact ⟨w, z.keeps kp⟩
    · exact ⟨_, z⟩
  · show H cenv.locals = none
    rw [hL]; exact I.hok.fresh (Nat.le_refl _)
  · have e : cenv.cells.lookup y = some c := e
    rcases mem e with ⟨h1, _⟩ | ⟨h1, _⟩
    · exact I.freeC y c h1
    · exact I.hok.fresh (Nat.le_of_succ_le h1)
  · exact absurd (show p ∈ ([] : List (Addr × Obj)) ++ [] from hp) (by simp)
theorem app_ok {E : Value → Shared → Prop} {D : Addr} {xs : List V} {y : V} {v : Value} {Q : Value → Shared → Prop} (I : Inv X pins σ H s) (hD : H D = some (.lst xs)) (hz : xs.length < sizeLine) (r : RelV y v)
    (h : ∀ s', Inv X pins σ (upd H D (.lst (xs ++ [y]))) s' → Q .none s') : wpAny (model X.prog X.w) X.A (call (.builtin "list.append") [.ref D, v]) Q E s := by
  obtain ⟨hz', its, n, ri, e⟩ := I.hok D _ hD
  have hl := ri.length
  refine append_at (hsz := by rw [List.size_toArray]; omega) e fun h' sb ho' => ?_
  refine h { s with heap := h' } (I.write (t' := s.toks) (by rw [hD]; trivial) (.inl rfl) (fun b u hb q => (sb.2 b hb).trans q) ⟨_, ho'⟩ ⟨by rw [List.length_append]; exact hz, its ++ [v], n + 1, ri.append (.cons r .nil), ?_⟩)
  rw [ho']
  simp
def PTs (X : Cx) (ifs : List Expr) (t : TT) : Prop :=
  ∀ (pins : List (Addr × Obj)) (s : Shared) (σ : St) (H : Hp) (Q : Bool → Hp → Prop), Inv X pins σ H s → t σ H Q →
    wpAny (model X.prog X.w) X.A (forIn ifs true fun c r => if r = true then do let ok ← isTrue c X.env (eval c X.env); pure (ForInStep.yield ok) else pure (ForInStep.yield r)) (TP X pins σ Q) X.xe s
def tYes : TT := fun _ H Q => Q true H
theorem pts_nil : PTs X [] tYes := fun _ _ _ H _ I h => wpAny_tests_nil ⟨H, I, h⟩
theorem pts_one {c : Expr} {t : TT} (h : PT X c t) : PTs X [c] t := fun pins s σ H Q I hw => wpAny_tests_one (h pins s σ H Q I hw)
end
theorem thnF {α : Type} {t : Sem α} {Q Q' : α → Shared → Prop} {M : Model} {A : Around} {E : Value → Shared → Prop} {s : Shared} (h : wpAny M A t Q (fun _ _ => False) s) (hQ : ∀ a s, Q a s → Q' a s) : wpAny M A t Q' E s := wpAny_mono h hQ fun _ _ z => False.elim z
theorem compLoop_any {prog : Program} {w : World} {A : Around} {R : Result → Shared → Prop} {s : Shared} {elt target iter : Expr} {ifs : List Expr} {scope : Scope} {pos : Pos} {it acc : Value} {env : Env} (I : Nat → Shared → Prop)
    (turn : ∀ n s, I n s → wpAny (model prog w) A (pyNext it) (fun r s₁ => match r with
      | none => R (.ok .next) s₁
      | some v => wpAny (model prog w) A (letOwnedTupleGo target it v) (fun _ s₁' => wpAny (model prog w) A (assign target env v) (fun _ s₂ =>
          wpAny (model prog w) A (forIn ifs true fun c r => if r = true then do let ok ← isTrue c env (eval c env); pure (ForInStep.yield ok) else pure (ForInStep.yield r)) (fun ok s₃ =>
            if ok = true then wpAny (model prog w) A (eval elt env) (fun x s₄ =>
              wpAny (model prog w) A (call (.builtin "list.append") [acc, x]) (fun _ s₅ => ∃ m, m < n ∧ I m s₅) (notedBy (model prog w) A env fun e s' => R (.error e) s') s₄) (notedBy (model prog w) A env fun e s' => R (.error e) s') s₃
            else ∃ m, m < n ∧ I m s₃) (notedBy (model prog w) A env fun e s' => R (.error e) s') s₂) (notedBy (model prog w) A env fun e s' => R (.error e) s') s₁') (notedBy (model prog w) A env fun e s' => R (.error e) s') s₁) (notedBy (model prog w) A env fun e s' => R (.error e) s') s)
    (n : Nat) (h : I n s) :
    codeAny (model prog w) A (.compLoop (.ListComp elt [⟨target, iter, ifs, 0⟩] scope pos) 0 it acc env) R s := by
  refine codeAny_loop rfl I (fun n s hI => ?_) n h
  show wpAny _ A ((compTurn (.ListComp elt [⟨target, iter, ifs, 0⟩] scope pos) 0 it acc env).onRaise (fun x => do noteFrame x env; theTreesLotGoes x)) _ _ s
  refine wpAny_noted ?_
  rw [compTurn_list]
  refine wpAny_bind (wpAny_standAt (wpAny_bind (wpAny_mono (turn n s hI) (fun r s₁ h₁ => ?_) fun _ _ h' => h')))
  cases r with
  | none => exact wpAny_pure h₁
  | some v =>
    refine wpAny_bind (wpAny_mono h₁ (fun _ s₁' h₁' => ?_) fun _ _ h' => h')
    refine wpAny_bind (wpAny_mono h₁' (fun _ s₂ h₂ => wpAny_bind (wpAny_mono h₂ (fun ok s₃ h₃ => ?_) fun _ _ h' => h')) fun _ _ h' => h')
    cases ok with
    | false => exact wpAny_pure ⟨rfl, h₃⟩
    | true =>
      exact wpAny_bind (wpAny_bind (wpAny_mono h₃ (fun x s₄ h₄ => wpAny_bind (wpAny_mono h₄ (fun _ s₅ h₅ => wpAny_pure (wpAny_pure ⟨rfl, h₅⟩)) fun _ _ h' => h')) fun _ _ h' => h'))
section
variable {X : Cx}
def tLc (wi : TI) (g : TG) (tt : TT) (te : TE) (vs : List Nat) : TE := fun σ H Q => wi σ H fun J H1 => ∀ D, H1 D = none → ∃ W : Nat → Nat → Hp → Prop, (∃ m, W 0 m (upd H1 D (.lst []))) ∧ ∀ i m H, W i m H →
  (J.stop i H ∧ Q (.ref D) H) ∨ (J.go i H ∧ ∃ Nx : Hp → Prop, (∀ H', Nx H' → ∃ m', m' < m ∧ W (i + 1) m' H') ∧ ∀ x H', J.yld i H x H' → g x (wipe σ vs) H' fun σ2 H2 => wipe σ2 vs = wipe σ vs ∧ tt σ2 H2 fun b H3 =>
    if b = true then te σ2 H3 fun y H4 => ∃ acc, H4 D = some (.lst acc) ∧ acc.length < sizeLine ∧ Nx (upd H4 D (.lst (acc ++ [y]))) else Nx H3)
theorem lc_core {pins : List (Addr × Obj)} {s : Shared} {σ : St} {H : Hp} {Q : VK} {elt tg iter : Expr} {ifs : List Expr} {scope : Scope} {own : List (Str × Nat)} {pos pos' : Pos} {wi : TI} {g : TG} {tt : TT} {te : TE} {use : Option (Value → Sem Unit)} {Qf : Value → Shared → Prop}
    (hc : X.calm = true) (hN : X.N.Nodup) (I : Inv X pins σ H s) (hi : PI X tg iter wi) (ok : BlkOk X.N X.env.scope scope own)
    (hg : ∀ (s : Shared) (H : Hp) (C : Addr) (cl : List (Str × Addr)) (fp : List Addr), PG (X.blk s H scope (compEnvC scope cl C X.env) fp) tg g) (ht : ∀ (s : Shared) (H : Hp) (C : Addr) (cl : List (Str × Addr)) (fp : List Addr), PTs (X.blk s H scope (compEnvC scope cl C X.env) fp) ifs tt)
    (he : ∀ (s : Shared) (H : Hp) (C : Addr) (cl : List (Str × Addr)) (fp : List Addr), PE (X.blk s H scope (compEnvC scope cl C X.env) fp) elt te) (hs : ∀ x, foldedSetIterable iter X.env x = pure x)
    (h : tLc wi g tt te (own.map (·.2)) σ H Q)
    (hRR : ∀ D C s' m H', Inv X pins σ H' s' → Q (.ref D) H' → s'.heap.Ns C m → FpOk X pins H' C → compPost (model X.prog X.w) X.A X.xe use Qf (.ref D) C (.ok .next) s') :
    wpAny (model X.prog X.w) X.A (comprehension (.ListComp elt [⟨tg, iter, ifs, 0⟩] scope pos) scope X.env pos' (newList []) false (eval iter X.env) use) Qf X.xe s := by
  have hfree : ∀ y ∈ scope.names, y.2 = .free → ∃ c, X.env.cells.lookup y.1 = some c := fun y hy e => by
    rcases ok.free y hy e with k | k
    · exact I.ok.has _ (.inl k)
    · exact I.ok.has _ (.inr k)
  refine wpAny_comprehension_free (use := use) rfl hs (closure_ok hfree) ok.kind (fun y hy e => by rw [ok.uniq y hy, e])
    (thn (hi pins s σ H _ I h) fun xv s1 hx => thn hx fun itv s2 h2 => ?_)
  obtain ⟨it, fp, tn, J, H2, e, I2, T, st2, f2, q⟩ := h2
  subst e
  refine wpAny_newObj_type (newEnv_comp ?_) (by show 0 ≤ sizeLine; decide)
  generalize hD : s2.heap.objs.size = D
  have hDn : H2 D = none := I2.hok.fresh (Nat.le_of_eq hD)
  obtain ⟨W, ⟨m0, w0⟩, turn⟩ := q D hDn
  generalize hs3 : ({ s2 with heap := s2.heap.push { cls := .type "list", data := .seq ([] : List Value).toArray } } : Shared) = s3
  have I3 : Inv X pins σ (upd H2 D (.lst [])) s3 := by
    rw [← hs3]
    refine I2.laid (t' := s2.toks) (fun b o e => Heap.get?_push_of_some _ e) (Nat.le_of_eq hD) ⟨Nat.zero_le _, [], 0, .nil, ?_⟩
    rw [← hD]
    exact Heap.get?_push_size _ rfl
  have h3 : s3.heap = s2.heap.push { cls := .type "list", data := .seq ([] : List Value).toArray } := by rw [← hs3]
  have sz : ∀ b ∈ fp, b < s2.heap.objs.size := fun b hb => by
    obtain ⟨o, e, _⟩ := T.obj _ _ st2 b hb
    exact Heap.lt_size e
  have f3 : ∀ b ∈ fp, FpOk X pins (upd H2 D (.lst [])) b ∧ b < s3.heap.objs.size := fun b hb => by
    have hlt := sz b hb
    refine ⟨⟨?_, (f2 b hb).2⟩, by rw [h3, Heap.size_push]; exact Nat.lt_succ_of_lt hlt⟩
    rw [upd_ne (by rw [← hD]; exact Nat.ne_of_lt hlt)]
    exact (f2 b hb).1
  have st3 : tn 0 s3.heap := T.keep _ _ _ st2 fun b _ o e => by rw [h3]; exact Heap.get?_push_of_some _ e
  have I4 := block_start I3 ok hN f3
  have pg := hg s3 (upd H2 D (.lst [])) s3.heap.objs.size (cellsFrom (s3.heap.objs.size + 1) scope.names (cloFrom X.env.cells scope.names [])) fp
  have pt := ht s3 (upd H2 D (.lst [])) s3.heap.objs.size (cellsFrom (s3.heap.objs.size + 1) scope.names (cloFrom X.env.cells scope.names [])) fp
  have pe := he s3 (upd H2 D (.lst [])) s3.heap.objs.size (cellsFrom (s3.heap.objs.size + 1) scope.names (cloFrom X.env.cells scope.names [])) fp
  show codeAny _ _ (.compStart (.ListComp elt [⟨tg, iter, ifs, 0⟩] scope pos) 0 (.ref it) (.ref D) (compEnvC scope (cellsFrom (s3.heap.objs.size + 1) scope.names (cloFrom X.env.cells scope.names [])) s3.heap.objs.size X.env)) (compPost (model X.prog X.w) X.A X.xe use Qf (.ref D) s3.heap.objs.size) { s3 with heap := pushCells (s3.heap.push { cls := .type "dict", data := .dict #[] }) scope.names }
  have nfp : ∀ b ∈ fp, (upd H2 D (.lst [])) b = none := fun b hb => (f3 b hb).1.1
  generalize hce : compEnvC scope (cellsFrom (s3.heap.objs.size + 1) scope.names (cloFrom X.env.cells scope.names [])) s3.heap.objs.size X.env = ce at I4 pg pt pe ⊢
  have cL : ce.locals = s3.heap.objs.size := by subst hce; rfl
  generalize hH3 : upd H2 D (.lst []) = H3 at I3 I4 pg pt pe w0 nfp f3
  generalize hs4 : ({ s3 with heap := pushCells (s3.heap.push { cls := .type "dict", data := .dict #[] }) scope.names } : Shared) = s4 at I4 ⊢
  have st4 : tn 0 s4.heap := T.keep _ _ _ st3 fun b _ o e => by rw [← hs4]; exact pushCells_keeps _ _ _ _ (Heap.get?_push_of_some _ e)
  have stat : ∀ {σ' : St} {H' : Hp} {s' : Shared}, Inv (X.blk s3 H3 scope ce fp) [] σ' H' s' → (∀ b ∈ fp, H' b = none) → ∀ b ∈ fp, FpOk (X.blk s3 H3 scope ce fp) [] H' b := fun {σ' H' s'} I' hn b hb =>
    ⟨hn b hb, (I'.ok.exf b hb).1, I'.ok.exfs b hb, .inl hb, fun x c e => (I'.ok.exf b hb).2 x c e, fun p hp => absurd (show p ∈ ([] : List (Addr × Obj)) ++ [] from hp) (by simp)⟩
  have loop : codeAny (model X.prog X.w) X.A (.compLoop (.ListComp elt [⟨tg, iter, ifs, 0⟩] scope pos) 0 (.ref it) (.ref D) ce) (compPost (model X.prog X.w) X.A X.xe use Qf (.ref D) s3.heap.objs.size) s4 := by
    refine compLoop_any (fun n s' => ∃ i H', Inv (X.blk s3 H3 scope ce fp) [] (wipe σ (own.map (·.2))) H' s' ∧ tn i s'.heap ∧ (∀ b ∈ fp, H' b = none) ∧ W i n H') ?_ m0 ⟨0, H3, I4, st4, nfp, w0⟩
    rintro n s5 ⟨i, H5, I5, st5, n5, w5⟩
    rcases turn i n H5 w5 with ⟨stop, qq⟩ | ⟨go, Nx, hNx, step⟩
    · have td := T.done (X.blk s3 H3 scope ce fp) rfl rfl rfl hc i [] s5 _ H5 (fun _ _ => False) I5 (stat I5 n5) st5 stop
      refine thnF td fun r s6 ⟨hr, I6⟩ => ?_
      subst hr
      have I7 : Inv X pins σ H5 s6 := I3.call' (ch := fp) I6.os I6.base I6.hok I6.bare fun b hb => ⟨(f3 b hb).1.2.2.2.1, (f3 b hb).1.2.1, (f3 b hb).1.2.2.2.2.1, (f3 b hb).1.2.2.2.2.2⟩
      have nC : H5 s3.heap.objs.size = none := by
        have z : H5 ce.locals = none := I6.free
        rw [cL] at z
        exact z
      obtain ⟨m, hn, _⟩ := I6.loc
      have hn : s6.heap.Ns ce.locals m := hn
      rw [cL] at hn
      exact hRR D s3.heap.objs.size s6 m H5 I7 qq hn (I3.fpOk (Nat.le_refl _) nC)
    · have ti := T.item (X.blk s3 H3 scope ce fp) rfl rfl rfl hc i [] s5 _ H5 (fun _ _ => False) I5 (stat I5 n5) st5 go
      refine thnF ti fun r s6 ⟨u, hr, h6⟩ => ?_
      subst hr
      refine thnF h6 fun _ s7 ⟨x, H7, I7, r7, y7, st7, n7⟩ => ?_
      have I7' := I7.pinned (stat I7 n7) (T.obj _ _ st7)
      refine thnF (pg _ s7 _ H7 x u _ I7' r7 (step x H7 y7)) fun _ s8 ⟨σ8, H8, I8, hw8, q8⟩ => ?_
      refine thnF (pt _ s8 σ8 H8 _ I8 q8) fun b s9 ⟨H9, I9, q9⟩ => ?_
      have fin : ∀ {s' : Shared} {H' : Hp}, Inv (X.blk s3 H3 scope ce fp) ([] ++ pinsAt fp s7.heap) σ8 H' s' → Nx H' → ∃ m, m < n ∧ ∃ i H', Inv (X.blk s3 H3 scope ce fp) [] (wipe σ (own.map (·.2))) H' s' ∧ tn i s'.heap ∧ (∀ b ∈ fp, H' b = none) ∧ W i m H' := fun {s' H'} I' nx => by
        obtain ⟨m', hm, w'⟩ := hNx H' nx
        have pin' : ∀ b ∈ fp, ∀ o, s7.heap.get? b = some o → s'.heap.get? b = some o ∧ H' b = none := fun b hb o e =>
          let z := I'.pin (b, o) (List.mem_append_right _ (List.mem_append_right _ (mem_pinsAt hb e)))
          ⟨z.1, z.2.1⟩
        have hl : (wipe σ (own.map (·.2))).length = σ8.length := by rw [← hw8, wipe_length]
        refine ⟨m', hm, i + 1, H', (I'.unpinned (pins := [])).weak hl (fun j v e => ?_), T.keep _ _ _ st7 fun b hb o e => (pin' b hb o e).1, fun b hb => ?_, w'⟩
        · rw [← hw8] at e
          exact (wipe_some e).1
        · obtain ⟨o, e, _⟩ := T.obj _ _ st7 b hb
          exact (pin' b hb o e).2
      cases b with
      | false =>
        simp only [Bool.false_eq_true, if_false] at q9 ⊢
        exact fin I9 q9
      | true =>
        simp only [if_true] at q9 ⊢
        refine thnF (pe _ s9 σ8 H9 _ I9 q9) fun z s10 ⟨yv, H10, I10, r10, acc, hD10, hz10, nx⟩ => ?_
        exact app_ok (X := X.blk s3 H3 scope ce fp) I10 hD10 hz10 r10 fun s11 I11 => fin I11 nx
  exact codeAny_compStart_list loop (T.self X.A 0 _ _ _ st4 loop)
theorem pe_lc {elt tg iter : Expr} {ifs : List Expr} {scope : Scope} {own : List (Str × Nat)} {pos : Pos} {wi : TI} {g : TG} {tt : TT} {te : TE} (hc : X.calm = true) (hN : X.N.Nodup) (hi : PI X tg iter wi) (ok : BlkOk X.N X.env.scope scope own)
    (hg : ∀ (s : Shared) (H : Hp) (C : Addr) (cl : List (Str × Addr)) (fp : List Addr), PG (X.blk s H scope (compEnvC scope cl C X.env) fp) tg g) (ht : ∀ (s : Shared) (H : Hp) (C : Addr) (cl : List (Str × Addr)) (fp : List Addr), PTs (X.blk s H scope (compEnvC scope cl C X.env) fp) ifs tt)
    (he : ∀ (s : Shared) (H : Hp) (C : Addr) (cl : List (Str × Addr)) (fp : List Addr), PE (X.blk s H scope (compEnvC scope cl C X.env) fp) elt te) (hs : ∀ x, foldedSetIterable iter X.env x = pure x := by intro _; rfl) :
    PE X (.ListComp elt [⟨tg, iter, ifs, 0⟩] scope pos) (tLc wi g tt te (own.map (·.2))) := by
  intro pins s σ H Q I h
  rw [eval_ListComp]
  refine lc_core hc hN I hi ok hg ht he hs h fun D C s' m H' I' q hn f => ⟨m, hn, fun h'' sb => ?_⟩
  obtain ⟨f0, f1, f2, f3, f4, f5⟩ := f
  exact ⟨.ref D, H', I'.turned (t' := s'.toks) (fun b o hb e => (sb.2 b hb).trans e) f0 f1 f3 f4 f5, rfl, q⟩
theorem ps_setLc {i : Nat} {y : Str} {py : Pos} {elt tg iter : Expr} {ifs : List Expr} {scope : Scope} {own : List (Str × Nat)} {pos spos : Pos} {wi : TI} {g : TG} {tt : TT} {te : TE} (hc : X.calm = true) (hN : X.N.Nodup) (hy : X.N[i]? = some y) (hyl : X.env.scope.names.lookup y = some .local)
    (hsw : swapsWith (.ListComp elt [⟨tg, iter, ifs, 0⟩] scope pos) (some (.Name y py)) spos.line X.env = pure true) (hi : PI X tg iter wi) (ok : BlkOk X.N X.env.scope scope own)
    (hg : ∀ (s : Shared) (H : Hp) (C : Addr) (cl : List (Str × Addr)) (fp : List Addr), PG (X.blk s H scope (compEnvC scope cl C X.env) fp) tg g) (ht : ∀ (s : Shared) (H : Hp) (C : Addr) (cl : List (Str × Addr)) (fp : List Addr), PTs (X.blk s H scope (compEnvC scope cl C X.env) fp) ifs tt)
    (he : ∀ (s : Shared) (H : Hp) (C : Addr) (cl : List (Str × Addr)) (fp : List Addr), PE (X.blk s H scope (compEnvC scope cl C X.env) fp) elt te) (hs : ∀ x, foldedSetIterable iter X.env x = pure x := by intro _; rfl) :
    PS X (.Assign [.Name y py] (.ListComp elt [⟨tg, iter, ifs, 0⟩] scope pos) spos) (tAsg (tLc wi g tt te (own.map (·.2))) (gName i)) := by
  intro pins s σ H D I h
  rw [exec_Assign_Name_used _ _ _ _ hsw]
  refine wpAny_bind (wpAny_standAt (wpAny_bind ?_))
  show wpAny _ X.A (do let _ ← comprehension (.ListComp elt [⟨tg, iter, ifs, 0⟩] scope pos) scope X.env (firstIterPos [⟨tg, iter, ifs, 0⟩] pos) (newList []) false (eval iter X.env) (some (assign (.Name y py) X.env))) _ _ s
  have h : tLc wi g tt te (own.map (·.2)) σ H (fun x H1 => gName i x σ H1 D.nx) := h
  refine wpAny_bind (thn (lc_core (Qf := fun _ s' => SP X pins D .next s') hc hN I hi ok hg ht he hs h fun L C s' m H' I' q hn f => ?_) fun _ s' hq => wpAny_pure (wpAny_pure hq))
  show wpAny _ _ (assign (.Name y py) X.env (.ref L)) _ _ _
  refine wpAny_assign_Name (store_ok2 (v := V.ref L) I' hN hy (.inl hyl) rfl (fun s2 I2 ⟨a, sb, ha⟩ => ?_) (.inr hyl))
  obtain ⟨f0, f1, f2, f3, f4, f5⟩ := f
  have haC : C ≠ a := by
    rcases ha with z | z
    · rw [z]; exact f1
    · exact fun e => f4 y a z e.symm
  refine ⟨m, hn.sameBut sb haC, fun h3 sb3 => ?_⟩
  exact ⟨_, H', I2.turned (t' := s2.toks) (fun b o hb e => (sb3.2 b hb).trans e) f0 f1 f3 f4 f5, q⟩
theorem sw_true {elt : Expr} {gs : List Comprehension} {scope : Scope} {pos py : Pos} {y : Str} {l : Nat} {env : Env} (hk : env.scope.kind = .function) (hy : env.scope.names.lookup y = some .local) (hl : (py.line == pos.line) = true)
    (ha : (scope.names.any fun (n, k) => n == y && (k == .local || k == .cell)) = false) : swapsWith (.ListComp elt gs scope pos) (some (.Name y py)) l env = pure true := by
  have ky : env.kindOf y = some .local := hy
  have hb : env.blockKind = .function := by unfold Env.blockKind; rw [hk]; rfl
  unfold swapsWith
  simp only [hb, ky, ha, Expr.pos, hl]
  rfl
end
def blkC (N : List Str) (sc scope : Scope) (own : List (Str × Nat)) : Bool :=
  (match scope.kind with | .function => true | _ => false) && (scope.names.all fun y => decide (scope.names.lookup y.1 = some y.2)) && (own.all fun p => decide (N[p.2]? = some p.1)) &&
    (scope.names.all fun y => match y.2 with
      | .free => (match sc.names.lookup y.1 with | some .cell => true | some .free => true | _ => false)
      | .local => decide (y.1 ∈ own.map (·.1)) || decide (y.1 ∉ N)
      | .cell => decide (y.1 ∈ own.map (·.1)) || decide (y.1 ∉ N)
      | _ => true)
theorem blkOk_by {N : List Str} {sc scope : Scope} {own : List (Str × Nat)} (h : blkC N sc scope own = true) : BlkOk N sc scope own := by
  unfold blkC at h
  simp only [Bool.and_eq_true, List.all_eq_true, decide_eq_true_eq] at h
  obtain ⟨⟨⟨h1, h2⟩, h3⟩, h4⟩ := h
  refine ⟨?_, h2, h3, fun y hy e => ?_, fun y hy e => ?_⟩
  · split at h1
    · assumption
    · cases h1
  · have q := h4 y hy
    simp only [e] at q
    split at q <;> first | exact .inl (by assumption) | exact .inr (by assumption) | cases q
  · have q := h4 y hy
    rcases e with e | e <;> (simp only [e, Bool.or_eq_true, decide_eq_true_eq] at q; exact q)
end L2
namespace L2
open PySem PySem.Spec PyProof.Rows
section
variable {prog : Program} {w : World} {A : Around} {R : Result → Shared → Prop} {s : Shared} {elt t0 i0 t1 i1 : Expr} {ifs0 ifs1 : List Expr} {scope : Scope} {pos : Pos} {it acc : Value} {env : Env}
end
section
variable {X : Cx}
end
end L2
namespace L2
open PySem PySem.Spec PyProof.Rows
section
variable {κ : Type} [DecidableEq κ]
end
section
variable {P : Program} {w : World} {H : Hp} {h : Heap} {a : Addr}
end
section
variable {X : Cx} {pins : List (Addr × Obj)} {σ : St} {H : Hp} {s : Shared} {a : Addr} {y v : V} {u r : Value} {o : Option V} {A : Around} {E : Value → Shared → Prop}
end
section
variable {X : Cx} {pins : List (Addr × Obj)} {σ : St} {H : Hp} {s : Shared} {a : Addr} {kvs : List (Key × V)} {k : Key} {u : Value} {A : Around} {E : Value → Shared → Prop}
end
section
variable {X : Cx} {o i e value : Expr} {pos pos' tpos : Pos} {td ty tv : TE}
end
section
variable {X : Cx} {pos : Pos}
end
section
variable {X : Cx} {pins : List (Addr × Obj)} {σ : St} {H : Hp} {s : Shared} {a : Addr} {y d : V} {u r : Value} {o : Option V} {A : Around} {E : Value → Shared → Prop}
end
section
variable {X : Cx} {o e f : Expr} {apos cpos : Pos} {td ty tx : TE}
end
section
variable {X : Cx} {pins : List (Addr × Obj)} {σ : St} {H : Hp} {s : Shared} {a : Addr} {kvs : List (Key × V)} {A : Around} {E : Value → Shared → Prop}
end
section
variable {X : Cx} {pins : List (Addr × Obj)} {σ : St} {H : Hp} {s : Shared} {a : Addr} {y : V} {u : Value} {A : Around} {E : Value → Shared → Prop}
end
end L2
namespace L2
open PySem PySem.Spec PyProof.Rows
section
variable {prog : Program} {w : World} {A : Around} {E : Value → Shared → Prop}
end
section
variable {X : Cx}
end
end L2
namespace L2
open PySem PySem.Spec PyProof.Rows
section
variable {X : Cx} {pins : List (Addr × Obj)} {σ : St} {H : Hp} {s : Shared} {h' : Heap}
theorem Inv.turnedL {t' : Nat} {ch : List Addr} (I : Inv X pins σ H s) (k : ∀ b o, b ∉ ch → s.heap.get? b = some o → h'.get? b = some o) (hf : ∀ b ∈ ch, FpOk X pins H b) : Inv X pins σ H { s with heap := h', toks := t' } := by
  have nit : ∀ b u, H b = some u → b ∉ ch := fun b u e z => by
    have q := (hf b z).1
    rw [q] at e; cases e
  refine I.step (g' := s.gens) (d' := s.drawn) (ch := ch) (fun b hb => ⟨(hf b hb).2.2.2.1, (hf b hb).2.1, (hf b hb).2.2.2.2.1, (hf b hb).2.2.2.2.2⟩) (fun b o _ _ hc e _ => k b o hc e) (fun b o _ _ hc e _ => ⟨o.slots, k b o hc e⟩)
    (fun _ _ _ _ n => n) (fun b o hc e => ⟨o, k b o hc e⟩) (fun _ _ e => e) (fun _ _ _ e => e) (fun b ps e => ⟨#[], by rw [e]; simp⟩) (fun m hm => ?_) (fun b u e => ?_) I.bare
  · obtain ⟨o, es, ep, ho, r⟩ := hm
    exact ⟨o, es, ep, k _ o (fun z => (hf _ z).2.1 rfl) ho, r⟩
  · refine (I.hok b u e).stay (fun c v hc q => k c v ?_ q) (fun _ q => q) fun _ _ q => q
    rcases hc with z | z
    · rw [z]; exact nit b u e
    · exact nit c _ z
theorem Inv.turnedNew {t' : Nat} {ch : List Addr} {T : Addr} {ob : HO} (I : Inv X pins σ H s) (k : ∀ b o, b ∉ ch → s.heap.get? b = some o → h'.get? b = some o) (hf : ∀ b ∈ ch, FpOk X pins H b) (hT : s.heap.objs.size ≤ T)
    (new : ObjOk X.prog X.w (upd H T ob) h' T ob) : Inv X pins σ (upd H T ob) { s with heap := h', toks := t' } := by
  have hn : H T = none := I.hok.fresh hT
  have nit : ∀ b u, H b = some u → b ∉ ch := fun b u e z => by
    have q := (hf b z).1
    rw [q] at e; cases e
  refine I.step (g' := s.gens) (d' := s.drawn) (ch := ch) (fun b hb => ⟨(hf b hb).2.2.2.1, (hf b hb).2.1, (hf b hb).2.2.2.2.1, (hf b hb).2.2.2.2.2⟩) (fun b o _ _ hc e _ => k b o hc e) (fun b o _ _ hc e _ => ⟨o.slots, k b o hc e⟩)
    (fun b o _ e n => ?_) (fun b o hc e => ⟨o, k b o hc e⟩) (fun b xs e => ?_) (fun b o u e => ?_) (fun b ps e => ⟨#[], ?_⟩) (fun m hm => ?_) (fun b u e => ?_) I.bare
  · rw [upd_ne (Nat.ne_of_lt (Nat.lt_of_lt_of_le (Heap.lt_size e) hT))]; exact n
  · rw [upd_ne (ne_of_none e hn)]; exact e
  · rw [upd_ne (ne_of_none e hn)]; exact e
  · rw [upd_ne (ne_of_none e hn), e]; simp
  · obtain ⟨o, es, ep, ho, r⟩ := hm
    exact ⟨o, es, ep, k _ o (fun z => (hf _ z).2.1 rfl) ho, r⟩
  · by_cases hb : b = T
    · subst hb
      rw [upd_same] at e
      cases e
      exact new
    · rw [upd_ne hb] at e
      refine (I.hok b u e).stay (fun c v hc q => k c v ?_ q) (fun c q => by rw [upd_ne (ne_of_none q hn)]; exact q) fun c xs q => by rw [upd_ne (ne_of_none q hn)]; exact q
      rcases hc with z | z
      · rw [z]; exact nit b u e
      · exact nit c _ z
end
section
variable {X : Cx}
theorem pi_one {tg : Expr} {pins : List (Addr × Obj)} {σ : St} {H : Hp} {s : Shared} {R : It → Hp → Prop} {J : It} {tn : Nat → Heap → Prop} {tk : Nat} (I : Inv X pins σ H s) (o : Obj)
    (T : Turn X.prog X.w X.K tg J [s.heap.objs.size] s.heap.objs.size tn) (st : tn 0 (s.heap.push o)) (q : R J H) : PIE X pins σ tg R (.ref s.heap.objs.size) { s with heap := s.heap.push o, toks := tk } := by
  refine ⟨s.heap.objs.size, [s.heap.objs.size], tn, J, H, rfl, I.kept fun b ob e => Heap.get?_push_of_some _ e, T, st, fun b hb => ?_, q⟩
  have e : b = s.heap.objs.size := by simpa using hb
  subst e
  exact I.fpOk (Nat.le_refl _) (I.hok.fresh (Nat.le_refl _))
end
def Itc (lo c : Int) (n : Nat) : It := ⟨fun i _ => i < n, fun i H x H' => H' = H ∧ x = .int (lo + (i : Nat) * c), fun i _ => n ≤ i⟩
theorem turn_rangeC {P : Program} {w : World} {K : PySem.W.Frag} {tg : Expr} (it : Addr) (lo c : Int) (n : Nat) : Turn P w K tg (Itc lo c n) [it] it (fun i h => IsRangeIter h it (lo + (i : Nat) * c) ((n : Int) - (i : Nat)) c) where
  mem := by simp
  obj := fun i h st b hb => by
    have e : b = it := by simpa using hb
    subst e
    exact ⟨_, st, fun v z => nomatch z⟩
  keep := fun i h h' st k => k it (by simp) _ st
  item := by
    intro X hP hw hK hc i pins s σ H E I hf st hg
    subst hP hw hK
    obtain ⟨f0, f1, f2, f3, f4, f5⟩ := hf it (by simp)
    have W := Walks.range (prog := X.prog) (w := X.w) (I.ok.hd hc) it lo c n
    refine W.item i s _ _ hg st fun v h' tk hv st' kk => ?_
    obtain ⟨t, rfl⟩ := hv
    have I1 : Inv X pins σ H { s with heap := h', toks := tk } := I.turned (fun b o hb e => kk b o (by simpa using hb) e) f0 f1 f3 f4 f5
    exact ⟨_, rfl, go_of (s := { s with heap := h', toks := tk }) (n := "range_iterator") st' rfl rfl (by decide) ⟨.int (lo + (i : Nat) * c), H, I1, ⟨t, rfl⟩, ⟨rfl, rfl⟩, st', fun b hb => (hf b hb).1⟩⟩
  done := by
    intro X hP hw hK hc i pins s σ H E I hf st hg
    subst hP hw hK
    obtain ⟨f0, f1, f2, f3, f4, f5⟩ := hf it (by simp)
    exact wpAny_pyNext_range_end (I.ok.hd hc) st (by have : n ≤ i := hg; omega) fun h' eb => ⟨rfl, I.turned (t' := s.toks) (fun b o hb e => eb b o hb e) f0 f1 f3 f4 f5⟩
  self := fun A i s Q E st h => wpAny_pyIter_rangeiter st h
def RgC (i j c : Int) (n : Nat) : Prop := c ≠ 0 ∧ c.natAbs < 1073741824 ∧ Builtin.Range.small i j c = true ∧ Builtin.Range.rangeSize i j c = n
def iRng3 (ta : TA) : TI := fun σ H R => ta σ H fun vs H1 => ∃ (i j c : Int) (n : Nat), vs = [.int i, .int j, .int c] ∧ RgC i j c n ∧ R (Itc i c n) H1
section
variable {X : Cx} {tg : Expr}
theorem pi_range3 {a b c : Expr} {ta : TA} {p pos : Pos} (hg : Gl X "range") (hm : X.mg "range" = none) (ha : PA X [a, b, c] ta)
    (hs : starEach [a, b, c] X.env = (false, eval a X.env) :: starEach [b, c] X.env := by rfl) (hpl : (backTo pos (starEach [b, c] X.env)).any (·.1) = false := by rfl) :
    PI X tg (.Call (.Name "range" p) [a, b, c] [] pos) (iRng3 ta) := by
  intro pins s σ H R I h
  refine Call_ (ld_blt I hg hm boot_range (PyProof.Rows.callWith_type1 (thn (ha pos pins s σ H _ I h) fun us s1 ⟨vs, H1, I1, r1, q1⟩ => ?_) hs hpl))
  obtain ⟨i, j, k, n, e, ⟨c0, c1, c2, c3⟩, q⟩ := q1
  subst e
  cases r1 with
  | cons r rr =>
    cases rr with
    | cons r' rr =>
      cases rr with
      | cons r'' rr =>
        cases rr
        obtain ⟨t, rfl⟩ := r
        obtain ⟨t', rfl⟩ := r'
        obtain ⟨t'', rfl⟩ := r''
        refine call_range_3 c0 ?_ (.inl (PyProof.noPylong_small c1))
        refine wpAny_pyIter_range (IsRange.new ..) c2 ?_
        have I2 : Inv X pins σ H1 { s1 with heap := s1.heap.push { cls := .type "range", data := .fields #[.int i t, .int j t', .int k t''] } } := I1.kept (t' := s1.toks) fun b o e => Heap.get?_push_of_some _ e
        refine pi_one (tk := s1.toks) I2 _ (turn_rangeC _ i k n) ?_ q
        have e1 : i + ((0 : Nat) : Int) * k = i := by simp
        have e2 : (n : Int) - ((0 : Nat) : Int) = Builtin.Range.rangeSize i j k := by rw [c3]; simp
        show IsRangeIter _ _ (i + ((0 : Nat) : Int) * k) ((n : Int) - ((0 : Nat) : Int)) k
        rw [e1, e2]
        exact Heap.get?_push_size _ rfl
end
theorem for_rangeC {lo c : Int} {n : Nat} {g : TG} {tb : TS} {D : Ends} {σ : St} {H : Hp} (Pv : Nat → St → Hp → Prop) (h0 : Pv 0 σ H)
    (hs : ∀ i σ H, i < n → Pv i σ H → g (.int (lo + (i : Nat) * c)) σ H fun σ2 H2 => tb { D with nx := Pv (i + 1), ct := Pv (i + 1), bk := D.nx } σ2 H2) (hd : ∀ σ H, Pv n σ H → D.nx σ H) :
    ∃ W : Nat → Nat → St → Hp → Prop, (∃ m, W 0 m σ H) ∧ ∀ i m σ H, W i m σ H →
      ((Itc lo c n).stop i H ∧ D.nx σ H) ∨ ((Itc lo c n).go i H ∧ ∃ N : St → Hp → Prop, (∀ σ' H', N σ' H' → ∃ m', m' < m ∧ W (i + 1) m' σ' H') ∧ ∀ x H', (Itc lo c n).yld i H x H' → g x σ H' fun σ2 H2 => tb { D with nx := N, ct := N, bk := D.nx } σ2 H2) := by
  refine ⟨fun i m σ H => m = n - i ∧ i ≤ n ∧ Pv i σ H, ⟨n, by simp, Nat.zero_le _, h0⟩, ?_⟩
  rintro i m σ H ⟨rfl, hi, p⟩
  by_cases hlt : i < n
  · refine .inr ⟨hlt, Pv (i + 1), fun σ' H' p' => ⟨n - (i + 1), by omega, rfl, hlt, p'⟩, fun x H' y => ?_⟩
    obtain ⟨e, y⟩ := y
    subst e y
    exact hs i σ _ hlt p
  · have e : i = n := by omega
    subst e
    exact .inl ⟨Nat.le_refl _, hd σ H p⟩
section
variable {X : Cx} {tg : Expr}
end
section
variable {prog : Program} {w : World} {A : Around} {E : Value → Shared → Prop} {s : Shared}
end
section
variable {X : Cx} {pins : List (Addr × Obj)} {σ : St} {H : Hp} {s : Shared} {d : Addr} {o : Obj}
end
section
variable {P : Program} {w : World} {K : PySem.W.Frag} {tg : Expr} {d : Addr} {o : Obj} {es : Array DictEntry} {ep : Nat}
end
section
variable {X : Cx} {tg e : Expr} {td : TE} {apos cpos : Pos}
end
def Ite (K : PySem.W.Frag) (a : Addr) : It :=
  ⟨fun i H => ∃ (xs : List V) (x : V), SqL K H a xs ∧ xs[i]? = some x, fun i H v H' => ∃ T x, v = .ref T ∧ H T = none ∧ H' = upd H T (.tup [.int (i : Nat), x]) ∧ ∀ xs, SqL K H a xs → xs[i]? = some x, fun i H => ∃ xs : List V, SqL K H a xs ∧ xs.length ≤ i⟩
theorem turn_enum {P : Program} {w : World} {K : PySem.W.Frag} {elts : List Expr} {kk : Nat} {tpos : Pos} (a e it : Addr) :
    Turn P w K (.Tuple elts kk tpos) (Ite K a) [e, it] e (fun i h => (∃ old, IsEnum h e it ((i : Nat) : Int) old) ∧ h.IsListIter it a i ∧ e ≠ it) where
  mem := by simp
  obj := fun i h st b hb => by
    obtain ⟨⟨old, he⟩, ⟨o, ho, hc, hd⟩, _⟩ := st
    have e' : b = e ∨ b = it := by simpa using hb
    rcases e' with z | z
    · rw [z]; exact ⟨_, he, fun v q => nomatch q⟩
    · rw [z]; exact ⟨o, ho, fun v q => by rw [hd] at q; cases q⟩
  keep := fun i h h' st k => let ⟨⟨old, he⟩, hi, hne⟩ := st; ⟨⟨old, k e (by simp) _ he⟩, hi.at fun o q => k it (by simp) o q, hne⟩
  item := by
    intro X hP hw hK hc i pins s σ H E I hf st hg
    subst hP hw hK
    obtain ⟨⟨old, he⟩, hit, hne⟩ := st
    obtain ⟨xs, x, hq, hx⟩ := hg
    obtain ⟨its, rv, p, hz⟩ := I.list hq
    obtain ⟨u, hu, ru⟩ := rv.get hx
    have hel : e < s.heap.objs.size := Heap.lt_size he
    have hil : it < s.heap.objs.size := by obtain ⟨_, q, _⟩ := hit; exact Heap.lt_size q
    refine wpAny_pyNext_enum_item he hit p.isList (x := u) (by simpa using hu) hne fun h' ho hit' hT hsz hk => ?_
    refine ⟨_, rfl, wpAny_letOwnedTupleGo_enum (s := { s with heap := h', toks := s.toks + 1 }) ho fun h'' he' sb => ?_⟩
    have hT2 : h''.get? s.heap.objs.size = some { cls := .type "tuple", data := .seq #[.int i s.toks, u] } := (sb.2 _ (Nat.ne_of_gt hel)).trans hT
    have new : ObjOk X.prog X.w (upd H s.heap.objs.size (.tup [.int (i : Nat), x])) h'' s.heap.objs.size (.tup [.int (i : Nat), x]) :=
      ⟨by show 2 ≤ sizeLine; decide, [.int i s.toks, u], .cons ⟨_, rfl⟩ (.cons ru .nil), ⟨_, hT2, rfl, _, rfl⟩⟩
    have I1 : Inv X pins σ (upd H s.heap.objs.size (.tup [.int (i : Nat), x])) { s with heap := h'', toks := s.toks + 1 } :=
      I.turnedNew (ch := [e, it]) (fun b ob hb q => (sb.2 b (fun z => hb (by simp [z]))).trans (hk b ob (fun z => hb (by simp [z])) (fun z => hb (by simp [z])) q)) hf (Nat.le_refl _) new
    refine ⟨.ref s.heap.objs.size, _, I1, rfl, ⟨_, x, rfl, I.hok.fresh (Nat.le_refl _), rfl, fun ys hy => by rw [I.list_inj hy hq]; exact hx⟩, ⟨⟨u, ?_⟩, hit'.at fun o q => (sb.2 it (Ne.symm hne)).trans q, hne⟩, fun b hb => ?_⟩
    · have e1 : ((i + 1 : Nat) : Int) = (i : Int) + 1 := by omega
      rw [e1]; exact he'
    · have hb' : b < s.heap.objs.size := by
        have e' : b = e ∨ b = it := by simpa using hb
        rcases e' with z | z
        · rw [z]; exact hel
        · rw [z]; exact hil
      rw [upd_ne (Nat.ne_of_lt hb')]
      exact (hf b hb).1
  done := by
    intro X hP hw hK hc i pins s σ H E I hf st hg
    subst hP hw hK
    obtain ⟨⟨old, he⟩, hit, hne⟩ := st
    obtain ⟨xs, hq, hx⟩ := hg
    obtain ⟨its, rv, p, hz⟩ := I.list hq
    obtain ⟨f0, f1, f2, f3, f4, f5⟩ := hf it (by simp)
    have hl := rv.length
    exact wpAny_pyNext_enum_end (I.ok.hd hc) he hit p.isList (by simp; omega) fun h' eb => ⟨rfl, I.turned (t' := s.toks) (fun b o hb q => eb b o hb q) f0 f1 f3 f4 f5⟩
  self := fun A i s Q E st h => let ⟨⟨_, he⟩, _⟩ := st; wpAny_pyIter_enum he h
def iEnum (K : PySem.W.Frag) (ta : TA) : TI := fun σ H R => ta σ H fun vs H1 => ∃ a xs, vs = [.ref a] ∧ SqL K H1 a xs ∧ R (Ite K a) H1
theorem pi_enum {X : Cx} {e : Expr} {ta : TA} {p pos tpos : Pos} {elts : List Expr} {kk : Nat} (hg : Gl X "enumerate") (hm : X.mg "enumerate" = none) (ha : PA X [e] ta) (hs : starEach [e] X.env = [(false, eval e X.env)] := by rfl) :
    PI X (.Tuple elts kk tpos) (.Call (.Name "enumerate" p) [e] [] pos) (iEnum X.K ta) := by
  intro pins s σ H R I h
  refine Call_ (ld_blt I hg hm boot_enumerate (PyProof.Rows.callWith_type1 (thn (ha pos pins s σ H _ I h) fun us s1 ⟨vs, H1, I1, r1, q1⟩ => ?_) hs rfl))
  obtain ⟨a, xs, ex, hq, q⟩ := q1
  subst ex
  cases r1 with
  | cons r rr =>
    cases rr
    cases r
    obtain ⟨its, rv, p', hz⟩ := I1.list hq
    refine call_enumerate_list p'.isList fun h' he hit hsz hk => wpAny_pyIter_enum he ?_
    have I2 : Inv X pins σ H1 { s1 with heap := h' } := I1.kept (t' := s1.toks) hk
    refine ⟨s1.heap.objs.size + 1, [s1.heap.objs.size + 1, s1.heap.objs.size], _, _, H1, rfl, I2, turn_enum a (s1.heap.objs.size + 1) s1.heap.objs.size, ⟨⟨.none, he⟩, hit, Nat.succ_ne_self _⟩, fun b hb => ?_, q⟩
    have e' : b = s1.heap.objs.size + 1 ∨ b = s1.heap.objs.size := by simpa using hb
    have hle : s1.heap.objs.size ≤ b := by
      rcases e' with z | z
      · rw [z]; exact Nat.le_add_right _ _
      · rw [z]; exact Nat.le_refl _
    exact I1.fpOk hle (I1.hok.fresh hle)
theorem boot_zip5 : bootBuiltins "zip" = some (.type "zip") := by decide +kernel
def Itz (K : PySem.W.Frag) (a b : Addr) : It :=
  ⟨fun i H => ∃ (xs ys : List V) (x y : V), SqL K H a xs ∧ SqL K H b ys ∧ xs[i]? = some x ∧ ys[i]? = some y,
    fun i H v H' => ∃ T x y, v = .ref T ∧ H T = none ∧ H' = upd H T (.tup [x, y]) ∧ (∀ xs, SqL K H a xs → xs[i]? = some x) ∧ ∀ ys, SqL K H b ys → ys[i]? = some y,
    fun i H => ∃ xs ys : List V, SqL K H a xs ∧ SqL K H b ys ∧ (xs.length ≤ i ∨ ys.length ≤ i)⟩
theorem turn_zip {P : Program} {w : World} {K : PySem.W.Frag} {elts : List Expr} {kk : Nat} {tpos : Pos} {a b z TI TO i1 i2 : Addr} (D : ZipApart z TI TO i1 i2 a b) :
    Turn P w K (.Tuple elts kk tpos) (Itz K a b) [z, TI, TO, i1, i2] z (fun i h => IsZip h z TI TO .none ∧ IsPair h TI (.ref i1) (.ref i2) ∧ (∃ x y, IsPair h TO x y) ∧ h.IsListIter i1 a i ∧ h.IsListIter i2 b i) where
  mem := by simp
  obj := fun i h st c hc => by
    obtain ⟨hz, hTI, ⟨x, y, hTO⟩, ⟨o1, e1, _, d1⟩, ⟨o2, e2, _, d2⟩⟩ := st
    have e' : c = z ∨ c = TI ∨ c = TO ∨ c = i1 ∨ c = i2 := by simpa using hc
    rcases e' with q | q | q | q | q
    · rw [q]; exact ⟨_, hz, fun v q => nomatch q⟩
    · rw [q]; exact ⟨_, hTI, fun v q => nomatch q⟩
    · rw [q]; exact ⟨_, hTO, fun v q => nomatch q⟩
    · rw [q]; exact ⟨o1, e1, fun v q => by rw [d1] at q; cases q⟩
    · rw [q]; exact ⟨o2, e2, fun v q => by rw [d2] at q; cases q⟩
  keep := fun i h h' st k => by
    obtain ⟨hz, hTI, ⟨x, y, hTO⟩, h1, h2⟩ := st
    exact ⟨k z (by simp) _ hz, k TI (by simp) _ hTI, ⟨x, y, k TO (by simp) _ hTO⟩, h1.at fun o q => k i1 (by simp) o q, h2.at fun o q => k i2 (by simp) o q⟩
  item := by
    intro X hP hw hK hc i pins s σ H E I hf st hg
    subst hP hw hK
    obtain ⟨hz, hTI, ⟨x0, y0, hTO⟩, h1, h2⟩ := st
    obtain ⟨xs, ys, x, y, hqx, hqy, hx, hy⟩ := hg
    obtain ⟨its, rv, p, _⟩ := I.list hqx
    obtain ⟨its2, rv2, p2, _⟩ := I.list hqy
    obtain ⟨u, hu, ru⟩ := rv.get hx
    obtain ⟨u2, hu2, ru2⟩ := rv2.get hy
    have hzl : z < s.heap.objs.size := Heap.lt_size hz
    refine wpAny_pyNext_zip_item D hz hTI hTO h1 h2 p.isList p2.isList (x := u) (y := u2) (by simpa using hu) (by simpa using hu2) fun h' z' TO' h1' h2' hT hsz hk => ?_
    refine ⟨_, rfl, wpAny_letOwnedTupleGo_zip (s := { s with heap := h' }) z' fun h'' z'' sb => ?_⟩
    have hT2 : h''.get? s.heap.objs.size = some { cls := .type "tuple", data := .seq #[u, u2] } := (sb.2 _ (Nat.ne_of_gt hzl)).trans hT
    have new : ObjOk X.prog X.w (upd H s.heap.objs.size (.tup [x, y])) h'' s.heap.objs.size (.tup [x, y]) :=
      ⟨by show 2 ≤ sizeLine; decide, [u, u2], .cons ru (.cons ru2 .nil), ⟨_, hT2, rfl, _, rfl⟩⟩
    have I1 : Inv X pins σ (upd H s.heap.objs.size (.tup [x, y])) { s with heap := h'' } :=
      I.turnedNew (t' := s.toks) (ch := [z, TI, TO, i1, i2]) (fun c o hb q => (sb.2 c (fun q' => hb (by simp [q']))).trans (hk c o (fun q' => hb (by simp [q'])) (fun q' => hb (by simp [q'])) (fun q' => hb (by simp [q'])) (fun q' => hb (by simp [q'])) q)) hf (Nat.le_refl _) new
    refine ⟨.ref s.heap.objs.size, _, I1, rfl, ⟨_, x, y, rfl, I.hok.fresh (Nat.le_refl _), rfl, fun l hl => by rw [I.list_inj hl hqx]; exact hx, fun l hl => by rw [I.list_inj hl hqy]; exact hy⟩, ⟨z'', ?_, ⟨u, u2, ?_⟩, ?_, ?_⟩, fun c hcm => ?_⟩
    · exact (sb.2 _ D.TIz).trans (hk _ _ D.TIz D.TITO D.TIi1 D.TIi2 hTI)
    · exact (sb.2 _ D.TOz).trans TO'
    · exact h1'.at fun o q => (sb.2 _ D.i1z).trans q
    · exact h2'.at fun o q => (sb.2 _ D.i2z).trans q
    · have hlt : c < s.heap.objs.size := by
        have e' : c = z ∨ c = TI ∨ c = TO ∨ c = i1 ∨ c = i2 := by simpa using hcm
        rcases e' with q | q | q | q | q
        · rw [q]; exact hzl
        · rw [q]; exact Heap.lt_size hTI
        · rw [q]; exact Heap.lt_size hTO
        · rw [q]; obtain ⟨_, e1, _⟩ := h1; exact Heap.lt_size e1
        · rw [q]; obtain ⟨_, e2, _⟩ := h2; exact Heap.lt_size e2
      rw [upd_ne (Nat.ne_of_lt hlt)]
      exact (hf c hcm).1
  done := by
    intro X hP hw hK hc i pins s σ H E I hf st hg
    subst hP hw hK
    obtain ⟨hz, hTI, ⟨x0, y0, hTO⟩, h1, h2⟩ := st
    obtain ⟨xs, ys, hqx, hqy, hend⟩ := hg
    obtain ⟨its, rv, p, _⟩ := I.list hqx
    obtain ⟨its2, rv2, p2, _⟩ := I.list hqy
    have l1 := rv.length
    have l2 := rv2.length
    have he : its.toArray[i]? = none ∨ its2.toArray[i]? = none := by
      rcases hend with q | q
      · exact .inl (by simp; omega)
      · exact .inr (by simp; omega)
    exact wpAny_pyNext_zip_end (I.ok.hd hc) D hz hTI hTO h1 h2 p.isList p2.isList he fun h' hk => ⟨rfl, I.turnedL (t' := s.toks) (ch := [z, TI, TO, i1, i2]) (fun c o hb q =>
      hk c o (fun q' => hb (by simp [q'])) (fun q' => hb (by simp [q'])) (fun q' => hb (by simp [q'])) (fun q' => hb (by simp [q'])) q) hf⟩
  self := fun A i s Q E st h => wpAny_pyIter_zip st.1 h
def iZip (K : PySem.W.Frag) (ta : TA) : TI := fun σ H R => ta σ H fun vs H1 => ∃ a b xs ys, vs = [.ref a, .ref b] ∧ SqL K H1 a xs ∧ SqL K H1 b ys ∧ R (Itz K a b) H1
theorem pi_zip {X : Cx} {e e2 : Expr} {ta : TA} {p pos tpos : Pos} {elts : List Expr} {kk : Nat} (hg : Gl X "zip") (hm : X.mg "zip" = none) (ha : PA X [e, e2] ta)
    (hs : starEach [e, e2] X.env = (false, eval e X.env) :: starEach [e2] X.env := by rfl) (hpl : (backTo pos (starEach [e2] X.env)).any (·.1) = false := by rfl) :
    PI X (.Tuple elts kk tpos) (.Call (.Name "zip" p) [e, e2] [] pos) (iZip X.K ta) := by
  intro pins s σ H R I h
  refine Call_ (ld_blt I hg hm boot_zip5 (PyProof.Rows.callWith_type1 (thn (ha pos pins s σ H _ I h) fun us s1 ⟨vs, H1, I1, r1, q1⟩ => ?_) hs hpl))
  obtain ⟨a, b, xs, ys, ex, hqx, hqy, q⟩ := q1
  subst ex
  cases r1 with
  | cons r rr =>
    cases rr with
    | cons r' rr =>
      cases rr
      cases r
      cases r'
      obtain ⟨its, rv, p1, _⟩ := I1.list hqx
      obtain ⟨its2, rv2, p2, _⟩ := I1.list hqy
      have la : a < s1.heap.objs.size := p1.lt
      have lb : b < s1.heap.objs.size := p2.lt
      refine call_zip_2 p1.isList p2.isList fun h' hz hTI hTO h1 h2 hsz hk => wpAny_pyIter_zip hz ?_
      have I2 : Inv X pins σ H1 { s1 with heap := h' } := I1.kept (t' := s1.toks) hk
      refine ⟨s1.heap.objs.size + 4, [s1.heap.objs.size + 4, s1.heap.objs.size + 2, s1.heap.objs.size + 3, s1.heap.objs.size, s1.heap.objs.size + 1], _, _, H1, rfl, I2, turn_zip (PySem.W.ktu_apart s1.heap.objs.size a b la lb), ⟨hz, hTI, ⟨_, _, hTO⟩, h1, h2⟩, fun c hcm => ?_, q⟩
      have e' : c = s1.heap.objs.size + 4 ∨ c = s1.heap.objs.size + 2 ∨ c = s1.heap.objs.size + 3 ∨ c = s1.heap.objs.size ∨ c = s1.heap.objs.size + 1 := by simpa using hcm
      have hle : s1.heap.objs.size ≤ c := by
        rcases e' with z | z | z | z | z
        · rw [z]; exact Nat.le_add_right _ _
        · rw [z]; exact Nat.le_add_right _ _
        · rw [z]; exact Nat.le_add_right _ _
        · rw [z]; exact Nat.le_refl _
        · rw [z]; exact Nat.le_add_right _ _
      exact I1.fpOk hle (I1.hok.fresh hle)
end L2
section
namespace Bits
open PySem PyProof.Rows
end Bits
end
section
namespace TL
open PySem PySem.Builtin PySem.Builtin.Str PySem.StrLaws
end TL
end
namespace L2
open PySem PySem.Spec PyProof.Rows
section
variable {X : Cx} {pins : List (Addr × Obj)} {σ : St} {H : Hp} {s : Shared} {Q : VK}
end
section
variable {X : Cx}
end
section
variable {X : Cx} {o e : Expr} {to te : TE}
end
end L2
namespace L2
open PySem PySem.Spec PyProof.Rows
section
variable {X : Cx}
end
end L2
namespace Att
open PySem PySem.W PySem.Calls PyProof.Rows
section
variable {prog : Program} {w : World} {A : Around} {E : Value → Shared → Prop} {s : Shared} {K : Frag}
end
end Att
namespace L2
open PySem PySem.Spec PyProof.Rows
end L2
namespace L2
open PySem PySem.Spec PyProof.Rows
end L2
namespace L2
open PySem PySem.Spec PyProof.Rows
def inClass (s : Stmt) (j : Nat) : Stmt := match s with
  | .ClassDef _ _ _ body _ _ _ _ _ _ _ => body.getD j (.Pass ⟨0, 0, 0, 0⟩)
  | _ => .Pass ⟨0, 0, 0, 0⟩
def defArgs (s : Stmt) : Arguments := match s with
  | .FunctionDef _ a _ _ _ _ _ _ _ _ => a
  | _ => { posonlyargs := [], args := [], vararg := none, kwonlyargs := [], kw_defaults := [], kwarg := none, defaults := [] }
def defBody (s : Stmt) : List Stmt := match s with
  | .FunctionDef _ _ b _ _ _ _ _ _ _ => b
  | _ => []
def defScope (s : Stmt) : Scope := match s with
  | .FunctionDef _ _ _ _ _ _ sc _ _ _ => sc
  | _ => { kind := .function, names := [], isGenerator := false, isCoroutine := false }
abbrev CX0 : CXT := fun _ _ _ _ _ _ => False
abbrev E0 : XK := fun _ _ _ => False
theorem pass0 {X : Cx} : Passes CX0 X E0 := fun _ _ _ _ _ _ _ h => h.elim
structure Fun (K : PySem.W.Frag) (x qual : Str) (st : Stmt) (f : Addr) (fd : FuncData) : Prop where
  ex : ∃ (oc : Value) (od : Option Addr) (kV doc pm : Value) (an : Option Addr) (cdv ct : Value) (osl : Array (Option Value)),
    fd = PySem.W.fnOf x qual (defArgs st) (defBody st) (defScope st) .none kV doc pm an cdv ct ∧ K.lookup f = some ⟨oc, od, .func fd, osl⟩ ∧ PySem.W.codeIn K cdv qual = true
  kp : PySem.W.keepIn K (.ref f) = true
section
variable {P : Program} {w : World} {K : PySem.W.Frag} {mg : Str → Option Value} {base : Heap}
theorem Fun.ok {x qual : Str} {st : Stmt} {f : Addr} {fd : FuncData} {N ps : List Str} {k : Nat} {sp : Sp} (F : Fun K x qual st f fd) (S : FnScope N ps (defScope st)) (len : ∀ vs H Q E, sp vs H Q E → vs.length = ps.length)
    (hbody : ∀ (cdv : Value) (A : Around) (outer : List Env) (s : Shared) (H : Hp) (vs : List V) (Q : VK) (E : XK), Room k (A.deeper (envOfC qual (defScope st) s.heap.objs.size f cdv)) → sp vs H Q E →
      ∃ t, PSs (cxOf CX0 P w K mg base N qual (defScope st) f cdv A outer s H E).nox (defBody st) t ∧ t { nx := fun _ H' => Q .non H', rt := Q } (start N vs) H) : FnOk P w K mg base CX0 (k + 1) f fd ps sp := by
  obtain ⟨oc, od, kV, doc, pm, an, cdv, ct, osl, rfl, lk, hcd⟩ := F.ex
  refine fn_of lk hcd S len fun A outer s H vs Q E hr hsp => ?_
  obtain ⟨t, h, q⟩ := hbody cdv A outer s H vs Q E hr hsp
  exact ⟨t, h.nox, q⟩
theorem Fun.binds {x qual : Str} {st : Stmt} {f : Addr} {fd : FuncData} {ps : List Str} (F : Fun K x qual st f fd)
    (h : ∀ (kV doc pm : Value) (an : Option Addr) (cdv ct : Value) (us : List Value), us.length = ps.length → bindArgs (PySem.W.fnOf x qual (defArgs st) (defBody st) (defScope st) .none kV doc pm an cdv ct) ⟨us, []⟩ = pure (ps.zip us)) : Binds K fd ps [] := by
  obtain ⟨oc, od, kV, doc, pm, an, cdv, ct, osl, rfl, lk, hcd⟩ := F.ex
  exact .all (h kV doc pm an cdv ct)
theorem fun_mk {x qual : Str} {st : Stmt} {f : Addr} {oc : Value} {od an : Option Addr} {osl : Array (Option Value)} {kV doc pm cdv ct : Value} (l : K.lookup f = some ⟨oc, od, .func (PySem.W.fnOf x qual (defArgs st) (defBody st) (defScope st) .none kV doc pm an cdv ct), osl⟩)
    (c : PySem.W.codeIn K cdv qual = true) (k : PySem.W.keepIn K (.ref f) = true) : Fun K x qual st f (PySem.W.fnOf x qual (defArgs st) (defBody st) (defScope st) .none kV doc pm an cdv ct) := ⟨⟨oc, od, kV, doc, pm, an, cdv, ct, osl, rfl, l, c⟩, k⟩
end
section
variable {X : Cx}
theorem pv (i : Nat) {x : Str} {pos : Pos} (hN : X.N[i]? = some x := by rfl) (hv : Vis X.env.scope x := by first | exact Or.inl rfl | exact Or.inr (Or.inl rfl) | exact Or.inr (Or.inr rfl)) (hd : (x == ("__debug__" : Str)) = false := by decide)
    (hcd : (x == ("__classdict__" : Str)) = false := by decide) : PE X (.Name x pos) (tVar i) := pe_var hN hv hd hcd
end
def Same (H H' : Hp) : Prop := ∀ b o, H b = some o → H' b = some o
theorem Same.trans {H H1 H2 : Hp} (a : Same H H1) (b : Same H1 H2) : Same H H2 := fun c o h => b c o (a c o h)
theorem Same.free {H H' : Hp} (e : Same H H') {l : Addr} (h : H' l = Option.none) : H l = Option.none := by
  cases q : H l with
  | none => rfl
  | some o =>
    rw [e l o q] at h
    cases h
theorem Same.seq {K : PySem.W.Frag} {H H' : Hp} {a : Addr} {xs : List V} (e : Same H H') (h : SqL K H a xs) : SqL K H' a xs := by
  rcases h with (h | ⟨o, h⟩) | h
  · exact .inl (.inl (e _ _ h))
  · exact .inl (.inr ⟨o, e _ _ h⟩)
  · exact .inr h
section
variable {κ : Type} [DecidableEq κ]
end
end L2
end
section
section
set_option maxHeartbeats 2000000
namespace L2
open PySem PySem.Spec PyProof.Rows
open PySem.W (WData Codec OpenSpec Well WellAll ReadsW ReadsAllW)
mutual
inductive Dw (K : PySem.W.Frag) (H : Hp) : V → WData → Prop
  | non : Dw K H .non .none
  | bl (b : Bool) : Dw K H (.bl b) (.bool b)
  | int (i : Int) : Dw K H (.int i) (.int i)
  | str (x : Str) : Dw K H (.str x) (.str x)
  | byt (b : Array UInt8) : Dw K H (.byt b) (.bytes b.toList)
  | lst {a : Addr} {xs : List V} {ds : List WData} : SqL K H a xs → DwAll K H xs ds → Dw K H (.ref a) (.list ds)
  | tup {a : Addr} {xs : List V} {ds : List WData} : SqT K H a xs → DwAll K H xs ds → Dw K H (.ref a) (.tuple ds)
inductive DwAll (K : PySem.W.Frag) (H : Hp) : List V → List WData → Prop
  | nil : DwAll K H [] []
  | cons {v : V} {vs : List V} {d : WData} {ds : List WData} : Dw K H v d → DwAll K H vs ds → DwAll K H (v :: vs) (d :: ds)
end
theorem dw_ints {K : PySem.W.Frag} {H : Hp} : ∀ ns : List Int, DwAll K H (ns.map V.int) (ns.map WData.int)
  | [] => .nil
  | n :: r => .cons (.int n) (dw_ints r)
theorem ints_dw {K : PySem.W.Frag} {H : Hp} : ∀ (ns : List Int) (xs : List V), DwAll K H xs (ns.map WData.int) → xs = ns.map V.int
  | [], xs, h => by
    cases h
    rfl
  | n :: r, xs, h => by
    cases h with
    | cons h1 h2 =>
      cases h1
      rw [ints_dw r _ h2] <;> rfl
section
variable {P : Program} {w : World} {K : PySem.W.Frag} {H : Hp} {h : Heap} {R : PySem.W.WRecords} {cl : Str → Option Addr}
theorem sqL_at {a : Addr} {xs : List V} (hok : HOk P w H h) (KX : K.In h) (q : SqL K H a xs) : ∃ (its : List Value) (o : Obj) (n : Nat), Vals xs its ∧ h.get? a = some o ∧ o.cls = .type "list" ∧ o.data = .seq its.toArray n := by
  rcases q with q | ⟨o, its, n, e, hc, _, hd, _, hv⟩
  · obtain ⟨_, its, n, hv, e⟩ := (show ObjOk P w H h a (.lst xs) from q.ok hok)
    exact ⟨its, _, n, hv, e, rfl, rfl⟩
  · exact ⟨its.toList, o, n, hv, KX _ _ e, hc, by simp [hd]⟩
theorem sqT_at {a : Addr} {xs : List V} (hok : HOk P w H h) (KX : K.In h) (q : SqT K H a xs) : ∃ (its : List Value) (o : Obj) (n : Nat), Vals xs its ∧ h.get? a = some o ∧ o.cls = .type "tuple" ∧ o.data = .seq its.toArray n := by
  rcases q with q | ⟨o, its, n, e, hc, hd, _, hv⟩
  · obtain ⟨_, its, hv, o, e, hc, n, hd⟩ := (show ObjOk P w H h a (.tup xs) from q.ok hok)
    exact ⟨its, o, n, hv, e, hc, hd⟩
  · exact ⟨its.toList, o, n, hv, KX _ _ e, hc, by simp [hd]⟩
mutual
theorem Dw.reads (hok : HOk P w H h) (KX : K.In h) : ∀ (d : WData) (v : V) (u : Value), Dw K H v d → RelV v u → ∃ as, ReadsW R cl h u d as
  | .none, _, _, x, r => by
    cases x
    cases r
    exact ⟨_, ReadsW.none⟩
  | .bool b, _, _, x, r => by
    cases x
    cases r
    exact ⟨_, ReadsW.bool b⟩
  | .int i, _, _, x, r => by
    cases x
    obtain ⟨t, rfl⟩ := r
    exact ⟨_, ReadsW.int i t⟩
  | .str s, _, _, x, r => by
    cases x
    obtain ⟨t, rfl⟩ := r
    exact ⟨_, ReadsW.str s t⟩
  | .bytes b, _, _, x, r => by
    cases x
    obtain ⟨t, rfl⟩ := r
    exact ⟨_, ReadsW.bytes _ t⟩
  | .list ds, _, _, x, r => by
    cases x with
    | lst hs ha =>
      cases r
      obtain ⟨its, o, n, rv, ho, hc, hd⟩ := sqL_at hok KX hs
      obtain ⟨as, hr⟩ := Dw.readsAll hok KX ds _ its ha rv
      exact ⟨_, ReadsW.list ho hc hd hr⟩
  | .tuple ds, _, _, x, r => by
    cases x with
    | tup hs ha =>
      cases r
      obtain ⟨its, o, n, rv, ho, hc, hd⟩ := sqT_at hok KX hs
      obtain ⟨as, hr⟩ := Dw.readsAll hok KX ds _ its ha rv
      exact ⟨_, ReadsW.tuple ho hc hd hr⟩
  | .float _, _, _, x, _ => by cases x
  | .dict _, _, _, x, _ => by cases x
  | .bytearray _, _, _, x, _ => by cases x
  | .set _, _, _, x, _ => by cases x
  | .frozenset _, _, _, x, _ => by cases x
  | .obj _ _, _, _, x, _ => by cases x
theorem Dw.readsAll (hok : HOk P w H h) (KX : K.In h) : ∀ (ds : List WData) (vs : List V) (us : List Value), DwAll K H vs ds → Vals vs us → ∃ as, ReadsAllW R cl h us ds as
  | [], _, _, x, r => by
    cases x
    cases r
    exact ⟨_, ReadsAllW.nil⟩
  | d :: ds, _, _, x, r => by
    cases x with
    | cons h1 h2 =>
      cases r with
      | cons r1 r2 =>
        obtain ⟨as, q1⟩ := Dw.reads hok KX d _ _ h1 r1
        obtain ⟨bs, q2⟩ := Dw.readsAll hok KX ds _ _ h2 r2
        exact ⟨_, ReadsAllW.cons q1 q2⟩
end
end
mutual
def plW : WData → Bool
  | .none => true
  | .bool _ => true
  | .int _ => true
  | .str _ => true
  | .bytes _ => true
  | .list xs => plWs xs
  | .tuple xs => plWs xs
  | _ => false
def plWs : List WData → Bool
  | [] => true
  | x :: r => plW x && plWs r
end
theorem plWs_map {α : Type} {f : α → WData} (h : ∀ a, plW (f a) = true) : ∀ l : List α, plWs (l.map f) = true
  | [] => rfl
  | x :: r => by
    show (plW (f x) && plWs (r.map f)) = true
    rw [h x, plWs_map h r] <;> rfl
theorem pl_enc : ∀ (c : Codec) (a : c.denote), plW (c.enc a) = true
  | .unit, _ => rfl
  | .bool, _ => rfl
  | .int _ _, _ => rfl
  | .nat _ _, _ => rfl
  | .u8, _ => rfl
  | .bytes _ _, _ => rfl
  | .text _ _ _ _, _ => rfl
  | .list _ _ c, a => plWs_map (fun x => pl_enc c x) a
  | .pair c d, a => by
    show (plW (c.enc a.1) && (plW (d.enc a.2) && true)) = true
    rw [pl_enc c a.1, pl_enc d a.2] <;> rfl
  | .triple c d e, a => by
    show (plW (c.enc a.1) && (plW (d.enc a.2.1) && (plW (e.enc a.2.2) && true))) = true
    rw [pl_enc c a.1, pl_enc d a.2.1, pl_enc e a.2.2] <;> rfl
  | .option c, none => rfl
  | .option c, some x => pl_enc c x
theorem pl_encAll : ∀ (cs : List Codec) (a : Codec.denoteAll cs), plWs (Codec.encAll cs a) = true
  | [], _ => rfl
  | c :: cs, a => by
    show (plW (c.enc a.1) && plWs (Codec.encAll cs a.2)) = true
    rw [pl_enc c a.1, pl_encAll cs a.2] <;> rfl
theorem weight_mem : ∀ {xs : List WData} {d : WData}, d ∈ xs → d.weight ≤ WData.weightAll xs
  | [], d, h => absurd h (by simp)
  | x :: r, d, h => by
    show d.weight ≤ x.weight + 1 + WData.weightAll r
    rcases List.mem_cons.mp h with e | m
    · rw [e]
      omega
    · have z := weight_mem m
      omega
def toV : Value → V
  | .none => .non
  | .bool b => .bl b
  | .int i _ => .int i
  | .str x _ => .str x
  | .bytes b _ => .byt b
  | .ref a => .ref a
  | _ => .non
def OkU (A : List Addr) : Value → Prop
  | .none => True
  | .bool _ => True
  | .int _ _ => True
  | .str _ _ => True
  | .bytes _ _ => True
  | .ref a => a ∈ A
  | _ => False
theorem OkU.mono {A B : List Addr} (h : ∀ a ∈ A, a ∈ B) : ∀ {u : Value}, OkU A u → OkU B u := fun {u} x => by
  cases u with
  | ref a => exact h a x
  | none => trivial
  | bool b => trivial
  | int i t => trivial
  | str s t => trivial
  | bytes b t => trivial
  | _ => exact False.elim x
theorem relV_toV {A : List Addr} {u : Value} (x : OkU A u) : RelV (toV u) u := by
  cases u with
  | ref a => rfl
  | none => rfl
  | bool b => rfl
  | int i t => exact ⟨t, rfl⟩
  | str s t => exact ⟨t, rfl⟩
  | bytes b t => exact ⟨t, rfl⟩
  | _ => exact False.elim x
theorem vals_toV {A : List Addr} : ∀ {vs : List Value}, (∀ u ∈ vs, OkU A u) → Vals (vs.map toV) vs
  | [], _ => .nil
  | u :: r, h => .cons (relV_toV (h u (List.mem_cons_self ..))) (vals_toV fun x hx => h x (List.mem_cons_of_mem _ hx))
def ArgOb (h : Heap) (A : List Addr) (a : Addr) : Prop := ∃ vs : List Value, vs.length ≤ sizeLine ∧ (∀ u ∈ vs, OkU A u) ∧
  (h.get? a = some { cls := .type "list", data := .seq vs.toArray } ∨ h.get? a = some { cls := .type "tuple", data := .seq vs.toArray })
theorem ArgOb.mono {h : Heap} {A B : List Addr} {a : Addr} (k : ∀ a ∈ A, a ∈ B) (x : ArgOb h A a) : ArgOb h B a := by
  obtain ⟨vs, h1, h2, h3⟩ := x
  exact ⟨vs, h1, fun u hu => (h2 u hu).mono k, h3⟩
theorem wellAll_len {P : Params} {h : Heap} : ∀ {vs : List Value} {ds : List WData}, WellAll P h vs ds → vs.length = ds.length
  | _, _, .nil => rfl
  | _, _, .cons _ b => by
    show _ + 1 = _ + 1
    rw [wellAll_len b]
theorem well_list {P : Params} {h : Heap} {v : Value} {ds : List WData} (x : Well P h v (.list ds)) : ∃ (a : Addr) (vs : List Value), v = .ref a ∧ h.get? a = some { cls := .type "list", data := .seq vs.toArray } ∧ WellAll P h vs ds := by
  cases x with
  | list ho hall => exact ⟨_, _, rfl, ho, hall⟩
theorem well_tuple {P : Params} {h : Heap} {v : Value} {ds : List WData} (x : Well P h v (.tuple ds)) : ∃ (a : Addr) (vs : List Value), v = .ref a ∧ h.get? a = some { cls := .type "tuple", data := .seq vs.toArray } ∧ WellAll P h vs ds := by
  cases x with
  | tuple ho hall => exact ⟨_, _, rfl, ho, hall⟩
theorem well_cons {P : Params} {h : Heap} {us : List Value} {d : WData} {ds : List WData} (x : WellAll P h us (d :: ds)) : ∃ (v : Value) (vs : List Value), us = v :: vs ∧ Well P h v d ∧ WellAll P h vs ds := by
  cases x with
  | cons a b => exact ⟨_, _, rfl, a, b⟩
theorem line_of {n : Nat} (h : n ≤ 1048576) : n ≤ sizeLine := Nat.le_trans h (by decide)
section
variable {P : Params} {h : Heap}
mutual
theorem area_one : ∀ (d : WData) (v : Value), Well P h v d → plW d = true → d.weight ≤ 1048576 → ∃ A : List Addr, OkU A v ∧ ∀ a ∈ A, ArgOb h A a
  | .none, _, x, _, _ => by
    cases x
    exact ⟨[], trivial, fun a m => absurd m (by simp)⟩
  | .bool b, _, x, _, _ => by
    cases x
    exact ⟨[], trivial, fun a m => absurd m (by simp)⟩
  | .int i, _, x, _, _ => by
    cases x
    exact ⟨[], trivial, fun a m => absurd m (by simp)⟩
  | .str s, _, x, _, _ => by
    cases x
    exact ⟨[], trivial, fun a m => absurd m (by simp)⟩
  | .bytes b, _, x, _, _ => by
    cases x
    exact ⟨[], trivial, fun a m => absurd m (by simp)⟩
  | .list ds, _, x, p, z => by
    obtain ⟨a, vs, rfl, ho, hall⟩ := well_list x
    have z2 : WData.weightAll ds ≤ 1048576 := z
    obtain ⟨A, h1, h2⟩ := area_all ds _ hall p fun d hd => Nat.le_trans (weight_mem hd) z2
    have k : ∀ b ∈ A, b ∈ a :: A := fun b hb => List.mem_cons_of_mem _ hb
    refine ⟨a :: A, List.mem_cons_self .., fun b hb => ?_⟩
    rcases List.mem_cons.mp hb with e | m
    · rw [e]
      exact ⟨vs, line_of (by rw [wellAll_len hall]; exact Nat.le_trans (PySem.W.length_le_weightAllW ds) z2), fun u hu => (h1 u hu).mono k, .inl ho⟩
    · exact (h2 b m).mono k
  | .tuple ds, _, x, p, z => by
    obtain ⟨a, vs, rfl, ho, hall⟩ := well_tuple x
    have z2 : WData.weightAll ds ≤ 1048576 := z
    obtain ⟨A, h1, h2⟩ := area_all ds _ hall p fun d hd => Nat.le_trans (weight_mem hd) z2
    have k : ∀ b ∈ A, b ∈ a :: A := fun b hb => List.mem_cons_of_mem _ hb
    refine ⟨a :: A, List.mem_cons_self .., fun b hb => ?_⟩
    rcases List.mem_cons.mp hb with e | m
    · rw [e]
      exact ⟨vs, line_of (by rw [wellAll_len hall]; exact Nat.le_trans (PySem.W.length_le_weightAllW ds) z2), fun u hu => (h1 u hu).mono k, .inr ho⟩
    · exact (h2 b m).mono k
  | .float _, _, _, p, _ => Bool.noConfusion (show false = true from p)
  | .dict _, _, _, p, _ => Bool.noConfusion (show false = true from p)
  | .bytearray _, _, _, p, _ => Bool.noConfusion (show false = true from p)
  | .set _, _, _, p, _ => Bool.noConfusion (show false = true from p)
  | .frozenset _, _, _, p, _ => Bool.noConfusion (show false = true from p)
  | .obj _ _, _, _, p, _ => Bool.noConfusion (show false = true from p)
theorem area_all : ∀ (ds : List WData) (vs : List Value), WellAll P h vs ds → plWs ds = true → (∀ d ∈ ds, d.weight ≤ 1048576) → ∃ A : List Addr, (∀ u ∈ vs, OkU A u) ∧ ∀ a ∈ A, ArgOb h A a
  | [], _, x, _, _ => by
    cases x
    exact ⟨[], fun u m => absurd m (by simp), fun a m => absurd m (by simp)⟩
  | d :: ds, _, x, p, z => by
    obtain ⟨v, vs, rfl, x1, x2⟩ := well_cons x
    have q : plW d = true ∧ plWs ds = true := Bool.and_eq_true_iff.mp p
    obtain ⟨A, a1, a2⟩ := area_one d v x1 q.1 (z d (List.mem_cons_self ..))
    obtain ⟨B, b1, b2⟩ := area_all ds vs x2 q.2 fun e he => z e (List.mem_cons_of_mem _ he)
    have kA : ∀ b ∈ A, b ∈ A ++ B := fun b hb => List.mem_append.mpr (.inl hb)
    have kB : ∀ b ∈ B, b ∈ A ++ B := fun b hb => List.mem_append.mpr (.inr hb)
    refine ⟨A ++ B, fun u hu => ?_, fun b hb => ?_⟩
    · rcases List.mem_cons.mp hu with e | m
      · rw [e]
        exact a1.mono kA
      · exact (b1 u m).mono kB
    · rcases List.mem_append.mp hb with m | m
      · exact (a2 b m).mono kA
      · exact (b2 b m).mono kB
end
end
def hoOf (o : Obj) : Option HO := match o.data with
  | .seq vs _ => if (o.cls == Value.type "list") = true then some (.frz o (.lst (vs.toList.map toV))) else some (.frz o (.tup (vs.toList.map toV)))
  | _ => none
def argH (K : PySem.W.Frag) (h : Heap) (A : List Addr) : Hp := fun b => if b ∈ A then (if (K.lookup b).isNone = true then (h.get? b).bind hoOf else none) else none
def OnlyF (H : Hp) : Prop := ∀ b, H b = none ∨ ∃ o u, H b = some (.frz o u)
theorem hoOf_lst (vs : List Value) : hoOf { cls := .type "list", data := .seq vs.toArray } = some (.frz { cls := .type "list", data := .seq vs.toArray } (.lst (vs.map toV))) := by
  show (if (Value.type "list" == Value.type "list") = true then some (HO.frz { cls := .type "list", data := .seq vs.toArray } (.lst (vs.toArray.toList.map toV))) else some (HO.frz { cls := .type "list", data := .seq vs.toArray } (.tup (vs.toArray.toList.map toV)))) = _
  rw [if_pos (beq_self_eq_true _)]
theorem hoOf_tup (vs : List Value) : hoOf { cls := .type "tuple", data := .seq vs.toArray } = some (.frz { cls := .type "tuple", data := .seq vs.toArray } (.tup (vs.map toV))) := by
  show (if (Value.type "tuple" == Value.type "list") = true then some (HO.frz { cls := .type "tuple", data := .seq vs.toArray } (.lst (vs.toArray.toList.map toV))) else some (HO.frz { cls := .type "tuple", data := .seq vs.toArray } (.tup (vs.toArray.toList.map toV)))) = _
  rw [if_neg (by decide)]
section
variable {P : Program} {w : World} {K : PySem.W.Frag} {h : Heap} {A : List Addr}
theorem argH_at {b : Addr} {o : Obj} (hb : b ∈ A) (hk : K.lookup b = none) (e : h.get? b = some o) : argH K h A b = hoOf o := by
  unfold argH
  rw [if_pos hb, hk, if_pos (show (none : Option Obj).isNone = true from rfl), e] <;> rfl
theorem of_argH {b : Addr} {u : HO} (q : argH K h A b = some u) : b ∈ A ∧ K.lookup b = none := by
  unfold argH at q
  by_cases hb : b ∈ A
  · rw [if_pos hb] at q
    cases hk : K.lookup b with
    | none => exact ⟨hb, rfl⟩
    | some o =>
      rw [hk, if_neg (by simp)] at q
      cases q
  · rw [if_neg hb] at q
    cases q
theorem argH_is (ar : ∀ a ∈ A, ArgOb h A a) {b : Addr} {u : HO} (q : argH K h A b = some u) : K.lookup b = none ∧ ∃ vs : List Value, vs.length ≤ sizeLine ∧ (∀ u ∈ vs, OkU A u) ∧
    ((h.get? b = some { cls := .type "list", data := .seq vs.toArray } ∧ u = .frz { cls := .type "list", data := .seq vs.toArray } (.lst (vs.map toV))) ∨
     (h.get? b = some { cls := .type "tuple", data := .seq vs.toArray } ∧ u = .frz { cls := .type "tuple", data := .seq vs.toArray } (.tup (vs.map toV)))) := by
  obtain ⟨hb, hk⟩ := of_argH q
  obtain ⟨vs, h1, h2, h3⟩ := ar b hb
  refine ⟨hk, vs, h1, h2, ?_⟩
  rcases h3 with e | e
  · rw [argH_at hb hk e, hoOf_lst] at q
    exact .inl ⟨e, (Option.some.inj q).symm⟩
  · rw [argH_at hb hk e, hoOf_tup] at q
    exact .inr ⟨e, (Option.some.inj q).symm⟩
theorem argH_only (ar : ∀ a ∈ A, ArgOb h A a) : OnlyF (argH K h A) := fun b => by
  cases q : argH K h A b with
  | none => exact .inl rfl
  | some u =>
    obtain ⟨_, vs, _, _, ⟨_, e⟩ | ⟨_, e⟩⟩ := argH_is ar q
    · exact .inr ⟨_, _, by rw [e]⟩
    · exact .inr ⟨_, _, by rw [e]⟩
theorem argH_ok (ar : ∀ a ∈ A, ArgOb h A a) : HOk P w (argH K h A) h := fun b u q => by
  obtain ⟨_, vs, h1, h2, ⟨e, rfl⟩ | ⟨e, rfl⟩⟩ := argH_is ar q
  · exact ⟨e, by rw [List.length_map]; exact h1, vs, _, vals_toV h2, e⟩
  · exact ⟨e, by rw [List.length_map]; exact h1, vs, vals_toV h2, _, e, rfl, _, rfl⟩
theorem seq_inj {c c' : Value} {vs us : List Value} (e : (some { cls := c, data := .seq vs.toArray } : Option Obj) = some { cls := c', data := .seq us.toArray }) : c = c' ∧ vs = us := by
  have e1 := Option.some.inj e
  have e2 : c = c' := congrArg Obj.cls e1
  have e3 : Data.seq vs.toArray = Data.seq us.toArray := congrArg Obj.data e1
  injection e3 with e4
  refine ⟨e2, ?_⟩
  have e5 := congrArg Array.toList e4
  simpa using e5
theorem argL (KX : K.In h) (ar : ∀ a ∈ A, ArgOb h A a) {a : Addr} {vs : List Value} (ha : a ∈ A) (e : h.get? a = some { cls := .type "list", data := .seq vs.toArray }) : (∀ u ∈ vs, OkU A u) ∧ SqL K (argH K h A) a (vs.map toV) := by
  obtain ⟨us, h1, h2, h3⟩ := ar a ha
  have hu : us = vs := by
    rcases h3 with q | q
    · rw [e] at q
      exact (seq_inj q).2.symm
    · rw [e] at q
      exact absurd (Value.type.inj (seq_inj q).1) (by decide)
  subst hu
  refine ⟨h2, ?_⟩
  cases hk : K.lookup a with
  | none => exact .inl (.inr ⟨_, by rw [argH_at ha hk e, hoOf_lst]⟩)
  | some o =>
    have e2 := KX a o hk
    rw [e] at e2
    obtain rfl := Option.some.inj e2
    exact .inr ⟨_, us.toArray, _, hk, rfl, rfl, rfl, by rw [List.size_toArray]; exact h1, by simpa using vals_toV h2⟩
theorem argT (KX : K.In h) (ar : ∀ a ∈ A, ArgOb h A a) {a : Addr} {vs : List Value} (ha : a ∈ A) (e : h.get? a = some { cls := .type "tuple", data := .seq vs.toArray }) : (∀ u ∈ vs, OkU A u) ∧ SqT K (argH K h A) a (vs.map toV) := by
  obtain ⟨us, h1, h2, h3⟩ := ar a ha
  have hu : us = vs := by
    rcases h3 with q | q
    · rw [e] at q
      exact absurd (Value.type.inj (seq_inj q).1) (by decide)
    · rw [e] at q
      exact (seq_inj q).2.symm
  subst hu
  refine ⟨h2, ?_⟩
  cases hk : K.lookup a with
  | none => exact .inl (.inr ⟨_, by rw [argH_at ha hk e, hoOf_tup]⟩)
  | some o =>
    have e2 := KX a o hk
    rw [e] at e2
    obtain rfl := Option.some.inj e2
    exact .inr ⟨_, us.toArray, _, hk, rfl, rfl, by rw [List.size_toArray]; exact h1, by simpa using vals_toV h2⟩
mutual
theorem dw_one {Pm : Params} (KX : K.In h) (ar : ∀ a ∈ A, ArgOb h A a) : ∀ (d : WData) (v : Value), Well Pm h v d → plW d = true → OkU A v → Dw K (argH K h A) (toV v) d
  | .none, _, x, _, _ => by
    cases x
    exact .non
  | .bool b, _, x, _, _ => by
    cases x
    exact .bl b
  | .int i, _, x, _, _ => by
    cases x
    exact .int i
  | .str s, _, x, _, _ => by
    cases x
    exact .str s
  | .bytes b, _, x, _, _ => by
    cases x
    have z := Dw.byt (K := K) (H := argH K h A) b.toArray
    exact z
  | .list ds, _, x, p, hu => by
    obtain ⟨a, vs, rfl, ho, hall⟩ := well_list x
    obtain ⟨h2, hs⟩ := argL KX ar hu ho
    exact .lst hs (dw_all KX ar ds _ hall p h2)
  | .tuple ds, _, x, p, hu => by
    obtain ⟨a, vs, rfl, ho, hall⟩ := well_tuple x
    obtain ⟨h2, hs⟩ := argT KX ar hu ho
    exact .tup hs (dw_all KX ar ds _ hall p h2)
  | .float _, _, _, p, _ => Bool.noConfusion (show false = true from p)
  | .dict _, _, _, p, _ => Bool.noConfusion (show false = true from p)
  | .bytearray _, _, _, p, _ => Bool.noConfusion (show false = true from p)
  | .set _, _, _, p, _ => Bool.noConfusion (show false = true from p)
  | .frozenset _, _, _, p, _ => Bool.noConfusion (show false = true from p)
  | .obj _ _, _, _, p, _ => Bool.noConfusion (show false = true from p)
theorem dw_all {Pm : Params} (KX : K.In h) (ar : ∀ a ∈ A, ArgOb h A a) : ∀ (ds : List WData) (vs : List Value), WellAll Pm h vs ds → plWs ds = true → (∀ u ∈ vs, OkU A u) → DwAll K (argH K h A) (vs.map toV) ds
  | [], _, x, _, _ => by
    cases x
    exact .nil
  | d :: ds, _, x, p, hu => by
    obtain ⟨v, vs, rfl, x1, x2⟩ := well_cons x
    have q : plW d = true ∧ plWs ds = true := Bool.and_eq_true_iff.mp p
    exact .cons (dw_one KX ar d v x1 q.1 (hu _ (List.mem_cons_self ..))) (dw_all KX ar ds vs x2 q.2 fun u m => hu u (List.mem_cons_of_mem _ m))
end
end
theorem spec_call {P : Program} {w : World} {K : PySem.W.Frag} {mg mb : Str → Option Value} {CX : CXT} {k : Nat} {fa : Addr} {fd : FuncData} {ps : List Str} {sp : Sp} {s₁ : Shared} {vals : List Value} {ds : List WData} {R : PySem.W.WRecords} {cl : Str → Option Addr} {d0 : WData}
    (KX : K.In s₁.heap) (hns : s₁.heap.Ns mainGlobals mg) (hb : s₁.heap.Ns builtinsNs mb) (hbb : ∀ x : Str, x ≠ "__name__" → mb x = bootBuiltins x) (hlim : s₁.heap.NoLimit) (hg : s₁.gens = #[])
    (hwl : WellAll w.params s₁.heap vals ds) (hpl : plWs ds = true) (hwt : ∀ d ∈ ds, d.weight ≤ 1048576) (hr : Room k callerA)
    (F : ∀ base : Heap, K.In base → base.Ns mainGlobals mg → FnOk P w K mg base CX k fa fd ps sp) (hbind : ∀ (s : Shared) (us : List Value), us.length = ps.length → BindsTo s fd ⟨us, []⟩ (ps.zip us)) (hlen : ds.length = ps.length)
    (hsp : ∀ (H : Hp) (xs : List V), OnlyF H → DwAll K H xs ds → sp xs H (fun v H' => Dw K H' v d0) fun _ _ _ => False)
    (hCX : ∀ H e s', CX [] H s₁ (fun _ _ _ => False) e s' → False) :
    codeAny (model P w) callerA (.call (.ref fa) ⟨vals, []⟩) (fun r s' => ∃ u as, r = .ok (.ret u) ∧ ReadsW R cl s'.heap u d0 as ∧ OldK s₁.heap s'.heap ∧ s'.os = s₁.os ∧ AllBare s'.gens) s₁ := by
  obtain ⟨A, ho, ar⟩ := area_all ds vals hwl hpl hwt
  have hO : OnlyF (argH K s₁.heap A) := argH_only ar
  have hok : HOk P w (argH K s₁.heap A) s₁.heap := argH_ok ar
  have hS := dw_all KX ar ds vals hwl hpl ho
  have hV := vals_toV ho
  have hK : ∀ b u, argH K s₁.heap A b = some u → K.lookup b = none := fun b u q => (argH_is ar q).1
  have noA : ∀ {b : Addr} {o : Obj} {es : Array DictEntry} {ep : Nat}, s₁.heap.get? b = some o → o.data = .dict es ep → argH K s₁.heap A b = none := fun {b o es ep} e d => by
    cases q : argH K s₁.heap A b with
    | none => rfl
    | some u =>
      obtain ⟨_, vs, _, _, ⟨e2, _⟩ | ⟨e2, _⟩⟩ := argH_is ar q
      · rw [e2] at e
        cases e
        have d' : Data.seq vs.toArray _ = Data.dict es ep := d
        cases d'
      · rw [e2] at e
        cases e
        have d' : Data.seq vs.toArray _ = Data.dict es ep := d
        cases d'
  generalize argH K s₁.heap A = H at hO hok hS hK noA
  have base_of : ∀ {b : Addr} {o : Obj}, s₁.heap.get? b = some o → H b = none → (hidT s₁.heap H).get? b = some o := fun e n => hidT_get e n
  have nsK : ∀ {b : Addr} {m : Str → Option Value}, s₁.heap.Ns b m → (hidT s₁.heap H).Ns b m := fun {b m} ⟨o, es, ep, e, d, r⟩ => ⟨o, es, ep, base_of e (noA e d), d, r⟩
  have nK : ∀ b o, K.lookup b = some o → H b = none := fun b o e => by
    cases q : H b with
    | none => rfl
    | some u =>
      rw [hK b u q] at e
      cases e
  have hKb : K.In (hidT s₁.heap H) := fun b o e => base_of (KX b o e) (nK b o e)
  have hM : Mod K mg (hidT s₁.heap H) := ⟨hKb, nsK hns, ⟨mb, nsK hb, hbb⟩, let ⟨mc, h1, h2⟩ := hlim; ⟨mc, nsK h1, h2⟩⟩
  have e0 : Env0 P w K mg (hidT s₁.heap H) callerA [] s₁ H := ⟨rfl, hM, fun b o e => of_hidT e, Nat.le_of_eq (hidT_size _ _), trivial, fun b hb => absurd (show b ∈ ([] : List Addr) from hb) (by simp), hok, .of_eq hg⟩
  have hl : vals.length = ps.length := by rw [wellAll_len hwl]; exact hlen
  refine codeAny_mono ((F _ hKb (nsK hns)).run callerA [] s₁ H ⟨vals, []⟩ vals (vals.map toV) _ _ hr e0 (hbind s₁ vals hl) hV (hsp H _ hO hS)) fun r s' x => ?_
  cases r with
  | error e => exact (hCX H e s' x).elim
  | ok fl =>
    cases fl with
    | next => exact False.elim x
    | brk => exact False.elim x
    | cont => exact False.elim x
    | ret u =>
      obtain ⟨v, H', os, bare, un, hok', r', q⟩ := x
      have kept : ∀ b o, s₁.heap.get? b = some o → s'.heap.get? b = some o := fun b o e => by
        cases q2 : H b with
        | none => exact un.keep b o e q2 (by intro z; exact absurd (show b ∈ ([] : List Addr) from z) (by simp)) (by simp)
        | some u2 =>
          rcases hO b with z | ⟨ob, u3, z⟩
          · rw [q2] at z
            cases z
          · have z2 := un.frzs b ob _ z
            obtain ⟨e1, _⟩ := hok b _ z
            obtain ⟨e2, _⟩ := hok' b _ z2
            rw [e] at e1
            cases e1
            exact e2
      have KX' : K.In s'.heap := fun b o e => kept b o (KX b o e)
      obtain ⟨as, hrd⟩ := Dw.reads (R := R) (cl := cl) hok' KX' d0 v u q r'
      exact ⟨u, as, rfl, hrd, OldK.of_keep kept, os, bare⟩
theorem layable_weight {ds : List WData} (h : WData.layableAll ds = true) : ∀ d ∈ ds, d.weight ≤ 1048576 := fun d hd =>
  (PySem.W.layableW_iff.mp (List.all_eq_true.mp h d hd)).2.2
theorem encAll_len : ∀ (cs : List Codec) (a : Codec.denoteAll cs), (Codec.encAll cs a).length = cs.length
  | [], _ => rfl
  | c :: cs, a => by
    show (Codec.encAll cs a.2).length + 1 = cs.length + 1
    rw [encAll_len cs a.2]
theorem walk_spec {r : OpenSpec} {k : Nat} {q : Program} {loose : List Str} {XP : (Str → Option Value) → Heap → Prop} {YP : World → Heap → Prop} {d : DefRec} {K : Params → PySem.W.Frag} {CX : World → CXT} {ps : List Str} {sp : World → Sp}
    (hwell : r.wellSaid = true) (hdf : d.params.defaults = []) (hlen : r.args.length = ps.length) (hr : Room k callerA)
    (hY : ∀ (w : World) (h : Heap), YP w h → (K w.params).In h)
    (F : ∀ (w : World) (mg : Str → Option Value) (fa : Addr) (h : Heap), YP w h → (K w.params).In h → h.Ns mainGlobals mg → mg d.name = some (.ref fa) →
      ∃ fd : FuncData, (∀ (s : Shared) (us : List Value), us.length = ps.length → BindsTo s fd ⟨us, []⟩ (ps.zip us)) ∧
        ∀ base : Heap, (K w.params).In base → base.Ns mainGlobals mg → FnOk r.prog w (K w.params) mg base (CX w) k fa fd ps (sp w))
    (hsp : ∀ (w : World) (H : Hp) (xs : List V) (a : Codec.denoteAll r.args), OnlyF H → Codec.withinAll r.args a = true → Codec.app r.args r.asked a = true → DwAll (K w.params) H xs (Codec.encAll r.args a) →
      sp w xs H (fun v H' => Dw (K w.params) H' v (r.ret.enc (Codec.app r.args r.f a))) fun _ _ _ => False)
    (hCX : ∀ (w : World) (H : Hp) (s : Shared) (e : Value) (s' : Shared), CX w [] H s (fun _ _ _ => False) e s' → False) :
    PySem.W.WalkOS q loose XP YP r d [] (fun f vs => PySem.call f vs) := by
  intro w s_0 s₁ mg mb G Y fa o pm cd doc dV kV ho hd hcd hD hmg hg args vals as hpre hlay hrd hwl hlo
  obtain ⟨a, e1, e2⟩ := PySem.W.os_pre_some hpre
  obtain ⟨e3, hwi⟩ := Codec.encAll_of_decAll r.args args a e1
  subst e3
  have KX := hY w _ Y
  obtain ⟨fd, hb, hF⟩ := F w mg fa _ Y KX G.T.g hmg
  refine PySem.W.enter_call (codeAny_mono (spec_call (R := []) (cl := classAt s_0.heap) (d0 := r.ret.enc (Codec.app r.args r.f a)) KX G.T.g G.T.b G.T.builtins G.T.nolimit hg hwl (pl_encAll _ _) (layable_weight hlay) hr hF hb (by rw [encAll_len]; exact hlen)
    (fun H xs hO hS => hsp w H xs a hO hwi e2 hS) fun H e s' => hCX w H s₁ e s') fun r' s' hq => ?_)
  obtain ⟨u, as', rfl, h1, h2, h3, h4⟩ := hq
  exact ⟨.inl ⟨u, _, as', rfl, fun _ => rfl, h1, (OpenSpec.post_iff hwell hwi _ _).mpr rfl, fun z => Bool.noConfusion (show false = true from z)⟩, h2, h3, h4⟩
theorem walk_specK {r : OpenSpec} {k : Nat} {q : Program} {loose : List Str} {XP : (Str → Option Value) → Heap → Prop} {YP : World → Heap → Prop} {d : DefRec} {K : Params → PySem.W.Frag} {CX : CXT} {ps : List Str} {sp : PySem.W.Frag → Sp}
    (hwell : r.wellSaid = true) (hdf : d.params.defaults = []) (hlen : r.args.length = ps.length) (hr : Room k callerA)
    (hY : ∀ (w : World) (h : Heap), YP w h → (K w.params).In h)
    (F : ∀ (w : World) (mg : Str → Option Value) (fa : Addr) (h : Heap), YP w h → (K w.params).In h → h.Ns mainGlobals mg → mg d.name = some (.ref fa) →
      ∃ fd : FuncData, (∀ (s : Shared) (us : List Value), us.length = ps.length → BindsTo s fd ⟨us, []⟩ (ps.zip us)) ∧
        ∀ base : Heap, (K w.params).In base → base.Ns mainGlobals mg → FnOk r.prog w (K w.params) mg base CX k fa fd ps (sp (K w.params)))
    (hsp : ∀ (K : PySem.W.Frag) (H : Hp) (xs : List V) (a : Codec.denoteAll r.args), OnlyF H → Codec.withinAll r.args a = true → Codec.app r.args r.asked a = true → DwAll K H xs (Codec.encAll r.args a) →
      sp K xs H (fun v H' => Dw K H' v (r.ret.enc (Codec.app r.args r.f a))) fun _ _ _ => False)
    (hCX : ∀ (H : Hp) (s : Shared) (e : Value) (s' : Shared), CX [] H s (fun _ _ _ => False) e s' → False) :
    PySem.W.WalkOS q loose XP YP r d [] (fun f vs => PySem.call f vs) :=
  walk_spec (K := K) (CX := fun _ => CX) (sp := fun w => sp (K w.params)) hwell hdf hlen hr hY F (fun w H xs a h1 h2 h3 h4 => hsp (K w.params) H xs a h1 h2 h3 h4) fun _ H s e s' => hCX H s e s'
end L2
end
end
section
namespace Haul
open Kv364
def pickStep (b x : Option Plan) : Option Plan := match b, x with
  | none, x => x
  | some b, none => some b
  | some b, some x => if x.cost < b.cost then some x else some b
theorem pick_go (F : Int → Option Plan) : ∀ (xs : List Int), xs.Pairwise (· < ·) → ∀ (acc r : Option Plan), (xs.map F).foldl pickStep acc = r →
    match r with
    | none => acc = none ∧ ∀ g ∈ xs, F g = none
    | some b => (acc = some b ∧ ∀ g' ∈ xs, ∀ b', F g' = some b' → b.cost ≤ b'.cost) ∨
      (∃ g ∈ xs, F g = some b ∧ (∀ a, acc = some a → b.cost < a.cost) ∧ ∀ g' ∈ xs, ∀ b', F g' = some b' → b.cost < b'.cost ∨ (b.cost = b'.cost ∧ g ≤ g'))
  | [], _, acc, r, h => by
    subst h
    cases acc with
    | none => exact ⟨rfl, fun g hg => by cases hg⟩
    | some b => exact .inl ⟨rfl, fun g hg => by cases hg⟩
  | x :: xs, hp, acc, r, h => by
    have hp2 := (List.pairwise_cons.mp hp).2
    have hx := (List.pairwise_cons.mp hp).1
    have ih := pick_go F xs hp2 (pickStep acc (F x)) r h
    cases r with
    | none =>
      obtain ⟨e, q⟩ := ih
      cases ha : acc with
      | none =>
        rw [ha] at e
        exact ⟨rfl, fun g hg => by
          rcases List.mem_cons.mp hg with rfl | hg
          · exact e
          · exact q g hg⟩
      | some a =>
        rw [ha] at e
        cases hf : F x with
        | none => rw [hf] at e; cases e
        | some y =>
          rw [hf] at e
          simp only [pickStep] at e
          split at e <;> cases e
    | some b =>
      rcases ih with ⟨e, q⟩ | ⟨g, hg, e, q, m⟩
      ·
        cases hf : F x with
        | none =>
          rw [hf] at e
          have ea : acc = some b := by
            cases ha : acc with
            | none => rw [ha] at e; cases e
            | some a => rw [ha] at e; exact e
          exact .inl ⟨ea, fun g' hg' b' hb' => by
            rcases List.mem_cons.mp hg' with rfl | hg'
            · rw [hf] at hb'; cases hb'
            · exact q g' hg' b' hb'⟩
        | some y =>
          rw [hf] at e
          cases ha : acc with
          | none =>
            rw [ha] at e
            have ey : y = b := Option.some.inj e
            subst ey
            refine .inr ⟨x, List.mem_cons_self, hf, fun a h => (by cases h), fun g' hg' b' hb' => ?_⟩
            rcases List.mem_cons.mp hg' with rfl | hg'
            · rw [hf] at hb'; cases hb'; exact .inr ⟨rfl, Int.le_refl _⟩
            · have := q g' hg' b' hb'
              have := hx g' hg'
              omega
          | some a =>
            rw [ha] at e
            simp only [pickStep] at e
            split at e
            · have ey : y = b := Option.some.inj e
              subst ey
              rename_i hlt
              refine .inr ⟨x, List.mem_cons_self, hf, fun a' h => (by cases h; exact hlt), fun g' hg' b' hb' => ?_⟩
              rcases List.mem_cons.mp hg' with rfl | hg'
              · rw [hf] at hb'; cases hb'; exact .inr ⟨rfl, Int.le_refl _⟩
              · have := q g' hg' b' hb'
                have := hx g' hg'
                omega
            · have ey : a = b := Option.some.inj e
              subst ey
              rename_i hlt
              refine .inl ⟨rfl, fun g' hg' b' hb' => ?_⟩
              rcases List.mem_cons.mp hg' with rfl | hg'
              · rw [hf] at hb'; cases hb'; omega
              · exact q g' hg' b' hb'
      · refine .inr ⟨g, List.mem_cons_of_mem _ hg, e, fun a ha => ?_, fun g' hg' b' hb' => ?_⟩
        · subst ha
          cases hf : F x with
          | none => rw [hf] at q; exact q a rfl
          | some y =>
            rw [hf] at q
            simp only [pickStep] at q
            split at q
            · have := q y rfl; omega
            · exact q a rfl
        · rcases List.mem_cons.mp hg' with rfl | hg'
          · rw [hb'] at q
            cases ha : acc with
            | none => rw [ha] at q; exact .inl (q b' rfl)
            | some a =>
              rw [ha] at q
              simp only [pickStep] at q
              split at q
              · exact .inl (q b' rfl)
              · have := q a rfl; omega
          · exact m g' hg' b' hb'
theorem pick_some {F : Int → Option Plan} {xs : List Int} (hp : xs.Pairwise (· < ·)) {b : Plan} (h : pick (xs.map F) = some b) :
    ∃ g ∈ xs, F g = some b ∧ ∀ g' ∈ xs, ∀ b', F g' = some b' → b.cost < b'.cost ∨ (b.cost = b'.cost ∧ g ≤ g') := by
  have := pick_go F xs hp none (some b) h
  rcases this with ⟨e, _⟩ | ⟨g, hg, e, _, m⟩
  · cases e
  · exact ⟨g, hg, e, m⟩
theorem pick_none {F : Int → Option Plan} {xs : List Int} (hp : xs.Pairwise (· < ·)) (h : pick (xs.map F) = none) : ∀ g ∈ xs, F g = none :=
  (pick_go F xs hp none none h).2
theorem costs_cons {a : Abs} {s : Spot} {l : List Spot} {f g : Int} {r : List Int} {c : Int} :
    a.costs (s :: l) f (g :: r) = some c ↔ ∃ p c', s.price (g - f - s.extra) = some p ∧ a.costs l g r = some c' ∧ c = (a.step : Int) * (g.natAbs : Int) + p + c' := by
  constructor
  · intro h
    simp only [Abs.costs] at h
    split at h
    · rename_i p c' hp hc
      exact ⟨p, c', hp, hc, (Option.some.inj h).symm⟩
    · cases h
  · rintro ⟨p, c', hp, hc, rfl⟩
    simp only [Abs.costs, hp, hc]
theorem costs_nil_cons {a : Abs} {s : Spot} {l : List Spot} {f : Int} : a.costs (s :: l) f [] = none := by simp only [Abs.costs]
theorem costs_cons_nil {a : Abs} {f g : Int} {r : List Int} : a.costs [] f (g :: r) = none := by simp only [Abs.costs]
theorem costs_nil {a : Abs} {f c : Int} : a.costs [] f [] = some c ↔ f = 0 ∧ c = 0 := by
  simp only [Abs.costs]
  split
  · constructor
    · intro h; exact ⟨by assumption, (Option.some.inj h).symm⟩
    · rintro ⟨_, rfl⟩; rfl
  · constructor
    · intro h; cases h
    · rintro ⟨h, _⟩; contradiction
theorem costs_len {a : Abs} : ∀ {l : List Spot} {f : Int} {gs : List Int} {c : Int}, a.costs l f gs = some c → gs.length = l.length
  | [], _, [], _, _ => rfl
  | [], _, g :: r, _, h => by rw [costs_cons_nil] at h; cases h
  | s :: l, _, [], _, h => by rw [costs_nil_cons] at h; cases h
  | s :: l, f, g :: r, c, h => by
    obtain ⟨p, c', _, hc, _⟩ := costs_cons.mp h
    simp only [List.length_cons, costs_len hc]
theorem price_nonneg {s : Spot} {x p : Int} (h : s.price x = some p) : 0 ≤ p := by
  simp only [Spot.price] at h
  split at h
  · cases h; omega
  · split at h
    · cases hb : s.borrow with
      | none => rw [hb] at h; cases h
      | some q =>
        rw [hb] at h
        have e : (q : Int) * x = p := Option.some.inj h
        rw [← e]
        exact Int.mul_nonneg (by omega) (by omega)
    · cases hb : s.spoil with
      | none => rw [hb] at h; cases h
      | some q =>
        rw [hb] at h
        have e : (q : Int) * (-x) = p := Option.some.inj h
        rw [← e]
        exact Int.mul_nonneg (by omega) (by omega)
theorem price_zero {s : Spot} : s.price 0 = some 0 := by simp [Spot.price]
theorem price_less {s : Spot} {x p : Int} (h : s.price x = some p) (hx : 0 < x) : ∃ p', s.price (x - 1) = some p' ∧ p' ≤ p := by
  have h' := h
  simp only [Spot.price] at h'
  rw [if_neg (by omega), if_pos hx] at h'
  cases hb : s.borrow with
  | none => rw [hb] at h'; cases h'
  | some q =>
    rw [hb] at h'
    have e : (q : Int) * x = p := Option.some.inj h'
    by_cases h1 : x - 1 = 0
    · exact ⟨0, by rw [h1]; exact price_zero, by have := price_nonneg h; omega⟩
    · refine ⟨(q : Int) * (x - 1), ?_, ?_⟩
      · simp only [Spot.price]
        rw [if_neg h1, if_pos (by omega), hb]
        rfl
      · rw [← e, Int.mul_sub]
        have : (0 : Int) ≤ q := by omega
        omega
theorem price_more {s : Spot} {x p : Int} (h : s.price x = some p) (hx : x < 0) : ∃ p', s.price (x + 1) = some p' ∧ p' ≤ p := by
  have h' := h
  simp only [Spot.price] at h'
  rw [if_neg (by omega), if_neg (by omega)] at h'
  cases hb : s.spoil with
  | none => rw [hb] at h'; cases h'
  | some q =>
    rw [hb] at h'
    have e : (q : Int) * (-x) = p := Option.some.inj h'
    by_cases h1 : x + 1 = 0
    · exact ⟨0, by rw [h1]; exact price_zero, by have := price_nonneg h; omega⟩
    · refine ⟨(q : Int) * (-(x + 1)), ?_, ?_⟩
      · simp only [Spot.price]
        rw [if_neg h1, if_neg (by omega), hb]
        rfl
      · rw [← e, show -(x + 1) = -x - 1 by omega, Int.mul_sub]
        have : (0 : Int) ≤ q := by omega
        omega
theorem haul_nonneg (t : Nat) (g : Int) : (0 : Int) ≤ (t : Int) * (g.natAbs : Int) := Int.mul_nonneg (by omega) (by omega)
theorem haul_mono {t : Nat} {g g' : Int} (h : g'.natAbs ≤ g.natAbs) : (t : Int) * (g'.natAbs : Int) ≤ (t : Int) * (g.natAbs : Int) :=
  Int.mul_le_mul_of_nonneg_left (by omega) (by omega)
theorem haul_lt {t : Nat} {g g' : Int} (ht : 0 < t) (h : g'.natAbs < g.natAbs) : (t : Int) * (g'.natAbs : Int) < (t : Int) * (g.natAbs : Int) :=
  Int.mul_lt_mul_of_pos_left (by omega) (by omega)
theorem costs_nonneg {a : Abs} : ∀ {l : List Spot} {f : Int} {gs : List Int} {c : Int}, a.costs l f gs = some c → 0 ≤ c
  | [], f, [], c, h => by obtain ⟨_, rfl⟩ := costs_nil.mp h; omega
  | [], _, g :: r, _, h => by rw [costs_cons_nil] at h; cases h
  | s :: l, _, [], _, h => by rw [costs_nil_cons] at h; cases h
  | s :: l, f, g :: r, c, h => by
    obtain ⟨p, c', hp, hc, rfl⟩ := costs_cons.mp h
    have h1 := costs_nonneg hc
    have h2 := price_nonneg hp
    have h3 := haul_nonneg a.step g
    omega
def lack : List Spot → Int
  | [] => 0
  | s :: l => max (-s.extra) 0 + lack l
def plenty : List Spot → Int
  | [] => 0
  | s :: l => max s.extra 0 + plenty l
theorem lack_nonneg : ∀ l, 0 ≤ lack l
  | [] => Int.le_refl _
  | s :: l => by have := lack_nonneg l; simp only [lack]; omega
theorem plenty_nonneg : ∀ l, 0 ≤ plenty l
  | [] => Int.le_refl _
  | s :: l => by have := plenty_nonneg l; simp only [plenty]; omega
theorem lack_append : ∀ l m, lack (l ++ m) = lack l + lack m
  | [], m => by simp [lack]
  | s :: l, m => by simp only [List.cons_append, lack, lack_append l m]; omega
theorem plenty_append : ∀ l m, plenty (l ++ m) = plenty l + plenty m
  | [], m => by simp [plenty]
  | s :: l, m => by simp only [List.cons_append, plenty, plenty_append l m]; omega
theorem right_less {a : Abs} : ∀ {l : List Spot} {f : Int} {gs : List Int} {c : Int}, a.costs l f gs = some c → lack l < f → ∃ gs' c', a.costs l (f - 1) gs' = some c' ∧ c' ≤ c
  | [], f, [], c, h, hf => by obtain ⟨rfl, _⟩ := costs_nil.mp h; simp [lack] at hf
  | [], _, g :: r, _, h, _ => by rw [costs_cons_nil] at h; cases h
  | s :: l, _, [], _, h, _ => by rw [costs_nil_cons] at h; cases h
  | s :: l, f, g :: r, c, h, hf => by
    obtain ⟨p, c', hp, hc, rfl⟩ := costs_cons.mp h
    simp only [lack] at hf
    have hn := lack_nonneg l
    by_cases hx : g - f - s.extra < 0
    · obtain ⟨p', hp', le⟩ := price_more hp hx
      refine ⟨g :: r, _, costs_cons.mpr ⟨p', c', ?_, hc, rfl⟩, by omega⟩
      rw [← hp']
      congr 1
      omega
    · obtain ⟨r', c2, h2, le⟩ := right_less hc (by omega)
      refine ⟨(g - 1) :: r', _, costs_cons.mpr ⟨p, c2, ?_, h2, rfl⟩, ?_⟩
      · rw [← hp]
        congr 1
        omega
      · have := haul_mono (t := a.step) (g := g) (g' := g - 1) (by omega)
        omega
theorem right_more {a : Abs} : ∀ {l : List Spot} {f : Int} {gs : List Int} {c : Int}, a.costs l f gs = some c → f < -plenty l → ∃ gs' c', a.costs l (f + 1) gs' = some c' ∧ c' ≤ c
  | [], f, [], c, h, hf => by obtain ⟨rfl, _⟩ := costs_nil.mp h; simp [plenty] at hf
  | [], _, g :: r, _, h, _ => by rw [costs_cons_nil] at h; cases h
  | s :: l, _, [], _, h, _ => by rw [costs_nil_cons] at h; cases h
  | s :: l, f, g :: r, c, h, hf => by
    obtain ⟨p, c', hp, hc, rfl⟩ := costs_cons.mp h
    simp only [plenty] at hf
    have hn := plenty_nonneg l
    by_cases hx : 0 < g - f - s.extra
    · obtain ⟨p', hp', le⟩ := price_less hp hx
      refine ⟨g :: r, _, costs_cons.mpr ⟨p', c', ?_, hc, rfl⟩, by omega⟩
      rw [← hp']
      congr 1
      omega
    · obtain ⟨r', c2, h2, le⟩ := right_more hc (by omega)
      refine ⟨(g + 1) :: r', _, costs_cons.mpr ⟨p, c2, ?_, h2, rfl⟩, ?_⟩
      · rw [← hp]
        congr 1
        omega
      · have := haul_mono (t := a.step) (g := g) (g' := g + 1) (by omega)
        omega
inductive Pre (a : Abs) : List Spot → Int → Int → Prop
  | nil : Pre a [] 0 0
  | snoc {l : List Spot} {f c : Int} {s : Spot} {g p : Int} : Pre a l f c → s.price (g - f - s.extra) = some p → Pre a (l ++ [s]) g (c + (a.step : Int) * (g.natAbs : Int) + p)
theorem left_less {a : Abs} (ht : 0 < a.step) {l : List Spot} {g c : Int} (h : Pre a l g c) : plenty l < g → ∃ c', Pre a l (g - 1) c' ∧ c' < c := by
  induction h with
  | nil => intro h; simp [plenty] at h
  | @snoc l f c s g p h hp ih =>
    intro hg
    rw [plenty_append] at hg
    simp only [plenty] at hg
    have hn := plenty_nonneg l
    have hh := haul_lt (t := a.step) (g := g) (g' := g - 1) ht (by omega)
    by_cases hx : 0 < g - f - s.extra
    · obtain ⟨p', hp', le⟩ := price_less hp hx
      refine ⟨_, .snoc h (p := p') ?_, by omega⟩
      rw [← hp']
      congr 1
      omega
    · obtain ⟨c', h', lt⟩ := ih (by omega)
      refine ⟨_, .snoc h' (p := p) ?_, by omega⟩
      rw [← hp]
      congr 1
      omega
theorem left_more {a : Abs} (ht : 0 < a.step) {l : List Spot} {g c : Int} (h : Pre a l g c) : g < -lack l → ∃ c', Pre a l (g + 1) c' ∧ c' < c := by
  induction h with
  | nil => intro h; simp [lack] at h
  | @snoc l f c s g p h hp ih =>
    intro hg
    rw [lack_append] at hg
    simp only [lack] at hg
    have hn := lack_nonneg l
    have hh := haul_lt (t := a.step) (g := g) (g' := g + 1) ht (by omega)
    by_cases hx : g - f - s.extra < 0
    · obtain ⟨p', hp', le⟩ := price_more hp hx
      refine ⟨_, .snoc h (p := p') ?_, by omega⟩
      rw [← hp']
      congr 1
      omega
    · obtain ⟨c', h', lt⟩ := ih (by omega)
      refine ⟨_, .snoc h' (p := p) ?_, by omega⟩
      rw [← hp]
      congr 1
      omega
theorem pre_join {a : Abs} {l : List Spot} {f c : Int} (h : Pre a l f c) : ∀ {m : List Spot} {gs : List Int} {d : Int}, a.costs m f gs = some d → ∃ gs', a.costs (l ++ m) 0 gs' = some (c + d) := by
  induction h with
  | nil => intro m gs d h; exact ⟨gs, by rw [List.nil_append, Int.zero_add]; exact h⟩
  | @snoc l f c s g p h hp ih =>
    intro m gs d hd
    obtain ⟨gs', e⟩ := ih (costs_cons.mpr ⟨p, d, hp, hd, rfl⟩)
    refine ⟨gs', ?_⟩
    rw [List.append_assoc]
    show a.costs (l ++ s :: m) 0 gs' = _
    rw [e]
    congr 1
    omega
theorem pre_split {a : Abs} : ∀ {m : List Spot} {l : List Spot} {f c : Int} {gs : List Int} {d : Int}, Pre a l f c → a.costs m f gs = some d → ∀ g ∈ gs,
    ∃ l1 l2 c1 c2 r, l ++ m = l1 ++ l2 ∧ Pre a l1 g c1 ∧ a.costs l2 g r = some c2 ∧ c + d = c1 + c2
  | [], _, _, _, [], _, _, _, g, hg => by cases hg
  | [], _, _, _, g :: r, _, _, h, _, _ => by rw [costs_cons_nil] at h; cases h
  | s :: m, _, _, _, [], _, _, h, _, _ => by rw [costs_nil_cons] at h; cases h
  | s :: m, l, f, c, g0 :: r, d, hP, h, g, hg => by
    obtain ⟨p, d', hp, hd, rfl⟩ := costs_cons.mp h
    have hP' := Pre.snoc hP hp
    rcases List.mem_cons.mp hg with rfl | hg
    · exact ⟨l ++ [s], m, _, d', r, by simp, hP', hd, by omega⟩
    · obtain ⟨l1, l2, c1, c2, r', e, q1, q2, q3⟩ := pre_split hP' hd g hg
      exact ⟨l1, l2, c1, c2, r', by rw [← e]; simp, q1, q2, by omega⟩
theorem cheaper {a : Abs} (ht : 0 < a.step) {l : List Spot} {gs : List Int} {c m : Int} (h : a.costs l 0 gs = some c) (h1 : lack l ≤ m) (h2 : plenty l ≤ m) {g : Int} (hg : g ∈ gs) (hm : m < g ∨ g < -m) :
    ∃ gs' c', a.costs l 0 gs' = some c' ∧ c' < c := by
  obtain ⟨l1, l2, c1, c2, r, e, q1, q2, q3⟩ := pre_split Pre.nil h g hg
  rw [List.nil_append] at e
  subst e
  rw [lack_append] at h1
  rw [plenty_append] at h2
  have n1 := lack_nonneg l1
  have n2 := lack_nonneg l2
  have n3 := plenty_nonneg l1
  have n4 := plenty_nonneg l2
  rcases hm with hm | hm
  · obtain ⟨d1, w1, u1⟩ := left_less ht q1 (by omega)
    obtain ⟨r', d2, w2, u2⟩ := right_less q2 (by omega)
    obtain ⟨gs', e⟩ := pre_join w1 w2
    exact ⟨gs', _, e, by omega⟩
  · obtain ⟨d1, w1, u1⟩ := left_more ht q1 (by omega)
    obtain ⟨r', d2, w2, u2⟩ := right_more q2 (by omega)
    obtain ⟨gs', e⟩ := pre_join w1 w2
    exact ⟨gs', _, e, by omega⟩
def Within (m : Int) (gs : List Int) : Prop := ∀ g ∈ gs, -m ≤ g ∧ g ≤ m
theorem to_within {a : Abs} (ht : 0 < a.step) {l : List Spot} {m : Int} (h1 : lack l ≤ m) (h2 : plenty l ≤ m) :
    ∀ (k : Nat) {gs : List Int} {c : Int}, a.costs l 0 gs = some c → c.toNat = k → Within m gs ∨ ∃ gs' c', a.costs l 0 gs' = some c' ∧ c' < c ∧ Within m gs' := by
  intro k
  induction k using Nat.strongRecOn with
  | _ k ih =>
    intro gs c h hk
    by_cases hw : Within m gs
    · exact .inl hw
    · right
      have : ∃ g ∈ gs, m < g ∨ g < -m := Classical.byContradiction fun hn => hw fun g hg => by
        have : ¬(m < g ∨ g < -m) := fun q => hn ⟨g, hg, q⟩
        omega
      obtain ⟨g, hg, hm⟩ := this
      obtain ⟨gs', c', h', lt⟩ := cheaper ht h h1 h2 hg hm
      have p' := costs_nonneg h'
      rcases ih c'.toNat (by omega) h' rfl with w | ⟨gs2, c2, q1, q2, q3⟩
      · exact ⟨gs', c', h', lt, w⟩
      · exact ⟨gs2, c2, q1, by omega, q3⟩
def LexLt : List Int → List Int → Prop
  | x :: xs, y :: ys => x < y ∨ (x = y ∧ LexLt xs ys)
  | _, _ => False
theorem lex_asymm : ∀ {x y : List Int}, LexLt x y → LexLt y x → False
  | [], _, h, _ => by cases ‹List Int› <;> exact h
  | _ :: _, [], h, _ => h
  | x :: xs, y :: ys, h, h' => by
    rcases h with h | ⟨e, h⟩ <;> rcases h' with h' | ⟨e', h'⟩
    · omega
    · omega
    · omega
    · exact lex_asymm h h'
structure Best (a : Abs) (P : List Int → Prop) (l : List Spot) (f : Int) (c : Int) (gs : List Int) : Prop where
  way : a.costs l f gs = some c
  keeps : P gs
  least : ∀ gs' c', a.costs l f gs' = some c' → P gs' → c < c' ∨ (c = c' ∧ (gs = gs' ∨ LexLt gs gs'))
def Tells (a : Abs) (P : List Int → Prop) (l : List Spot) (f : Int) : Option Plan → Prop
  | some b => Best a P l f b.cost b.flows
  | none => ∀ gs c, a.costs l f gs = some c → P gs → False
theorem Tells.all {a : Abs} (ht : 0 < a.step) {l : List Spot} {m : Int} (h1 : lack l ≤ m) (h2 : plenty l ≤ m) {o : Option Plan} (h : Tells a (Within m) l 0 o) : Tells a (fun _ => True) l 0 o := by
  cases o with
  | none =>
    intro gs c hc _
    rcases to_within ht h1 h2 _ hc rfl with w | ⟨gs', c', q1, _, q3⟩
    · exact h _ _ hc w
    · exact h _ _ q1 q3
  | some b =>
    refine ⟨h.way, trivial, fun gs' c' hc _ => ?_⟩
    rcases to_within ht h1 h2 _ hc rfl with w | ⟨gs2, c2, q1, q2, q3⟩
    · exact h.least _ _ hc w
    · have := h.least _ _ q1 q3
      left
      omega
end Haul
end
section
namespace Haul
open Kv364
theorem zip_self {α β : Type} (F : α → β) : ∀ l : List α, l.zip (l.map F) = l.map fun x => (x, F x)
  | [] => rfl
  | x :: l => by simp only [List.map_cons, List.zip_cons_cons, zip_self F l]
theorem sizes_pw (a : Abs) : a.sizes.Pairwise (· < ·) := by
  unfold Abs.sizes
  rw [List.pairwise_map]
  refine List.Pairwise.imp ?_ List.pairwise_lt_range
  intro x y h
  omega
theorem mem_sizes {a : Abs} {g : Int} : g ∈ a.sizes ↔ -(a.cap : Int) ≤ g ∧ g ≤ a.cap := by
  unfold Abs.sizes
  rw [List.mem_map]
  constructor
  · rintro ⟨k, hk, rfl⟩
    have := List.mem_range.mp hk
    omega
  · intro h
    exact ⟨(g + a.cap).toNat, List.mem_range.mpr (by omega), by omega⟩
def cand (a : Abs) (s : Spot) (f : Int) (T : Int → Option Plan) (g : Int) : Option Plan := match s.price (g - f - s.extra), T g with
  | some p, some b => some ⟨(a.step : Int) * (g.natAbs : Int) + p + b.cost, g :: b.flows⟩
  | _, _ => none
def tell (a : Abs) : List Spot → Int → Option Plan
  | [], f => if f = 0 then some ⟨0, []⟩ else none
  | s :: l, f => pick ((a.sizes.filter fun g => s.fits (g - f - s.extra)).map (cand a s f (tell a l)))
theorem table_eq (a : Abs) : ∀ l, a.table l = a.sizes.map (tell a l)
  | [] => rfl
  | s :: l => by
    have ih := table_eq a l
    simp only [Abs.table, ih, zip_self, List.filter_map, List.map_map]
    rfl
theorem price_fits {s : Spot} {x p : Int} (h : s.price x = some p) : s.fits x = true := by
  simp only [Spot.price] at h
  unfold Spot.fits
  split at h
  · simp [*]
  · split at h
    · cases hb : s.borrow with
      | none => rw [hb] at h; cases h
      | some q => simp [*]
    · cases hb : s.spoil with
      | none => rw [hb] at h; cases h
      | some q =>
        have : x < 0 := by omega
        simp [*]
theorem cand_some {a : Abs} {s : Spot} {f g : Int} {T : Int → Option Plan} {b : Plan} (h : cand a s f T g = some b) : ∃ p b0, s.price (g - f - s.extra) = some p ∧ T g = some b0 ∧ b = ⟨(a.step : Int) * (g.natAbs : Int) + p + b0.cost, g :: b0.flows⟩ := by
  unfold cand at h
  split at h
  · rename_i p b0 h1 h2
    exact ⟨p, b0, h1, h2, (Option.some.inj h).symm⟩
  · cases h
theorem cand_of {a : Abs} {s : Spot} {f g p : Int} {T : Int → Option Plan} {b0 : Plan} (h1 : s.price (g - f - s.extra) = some p) (h2 : T g = some b0) : cand a s f T g = some ⟨(a.step : Int) * (g.natAbs : Int) + p + b0.cost, g :: b0.flows⟩ := by
  unfold cand
  rw [h1, h2]
theorem within_cons {m g : Int} {r : List Int} : Within m (g :: r) ↔ (-m ≤ g ∧ g ≤ m) ∧ Within m r := by
  unfold Within
  constructor
  · intro h
    exact ⟨h g List.mem_cons_self, fun x hx => h x (List.mem_cons_of_mem _ hx)⟩
  · rintro ⟨h1, h2⟩ x hx
    rcases List.mem_cons.mp hx with rfl | hx
    · exact h1
    · exact h2 x hx
theorem tell_tells (a : Abs) : ∀ (l : List Spot) (f : Int), Tells a (Within a.cap) l f (tell a l f)
  | [], f => by
    unfold tell
    split
    · rename_i h
      subst h
      refine ⟨costs_nil.mpr ⟨rfl, rfl⟩, fun g hg => (by cases hg), fun gs' c' h _ => ?_⟩
      cases gs' with
      | nil => obtain ⟨_, rfl⟩ := costs_nil.mp h; exact .inr ⟨rfl, .inl rfl⟩
      | cons g r => rw [costs_cons_nil] at h; cases h
    · rename_i h
      intro gs c hc _
      cases gs with
      | nil => exact h (costs_nil.mp hc).1
      | cons g r => rw [costs_cons_nil] at hc; cases hc
  | s :: l, f => by
    have ih := tell_tells a l
    have hpw : (a.sizes.filter fun g => s.fits (g - f - s.extra)).Pairwise (· < ·) := (sizes_pw a).sublist List.filter_sublist
    have hin : ∀ {g p : Int}, -(a.cap : Int) ≤ g ∧ g ≤ a.cap → s.price (g - f - s.extra) = some p → g ∈ a.sizes.filter fun g => s.fits (g - f - s.extra) := fun h1 h2 =>
      List.mem_filter.mpr ⟨mem_sizes.mpr h1, price_fits h2⟩
    cases e : tell a (s :: l) f with
    | none =>
      intro gs c hc hw
      cases gs with
      | nil => rw [costs_nil_cons] at hc; cases hc
      | cons g r =>
        obtain ⟨p, c', hp, hc', _⟩ := costs_cons.mp hc
        obtain ⟨w1, w2⟩ := within_cons.mp hw
        have q := pick_none hpw e g (hin w1 hp)
        have t := ih g
        cases e1 : tell a l g with
        | none => rw [e1] at t; exact t _ _ hc' w2
        | some b => rw [cand_of hp e1] at q; cases q
    | some b =>
      obtain ⟨g, hg, hb, hm⟩ := pick_some hpw e
      obtain ⟨p, b0, hp, e0, rfl⟩ := cand_some hb
      have t0 := ih g
      rw [e0] at t0
      have hgs := mem_sizes.mp (List.mem_filter.mp hg).1
      refine ⟨costs_cons.mpr ⟨p, b0.cost, hp, t0.way, rfl⟩, within_cons.mpr ⟨hgs, t0.keeps⟩, fun gs' c' hc hw => ?_⟩
      cases gs' with
      | nil => rw [costs_nil_cons] at hc; cases hc
      | cons g' r' =>
        obtain ⟨p', d, hp', hd, rfl⟩ := costs_cons.mp hc
        obtain ⟨w1, w2⟩ := within_cons.mp hw
        have t1 := ih g'
        cases e1 : tell a l g' with
        | none => rw [e1] at t1; exact (t1 _ _ hd w2).elim
        | some b1 =>
          rw [e1] at t1
          have l1 := t1.least _ _ hd w2
          have q := hm g' (hin w1 hp') _ (cand_of hp' e1)
          dsimp only at q ⊢
          by_cases hgg : g = g'
          · subst hgg
            rw [e0] at e1
            cases e1
            rw [hp] at hp'
            cases hp'
            rcases l1 with l1 | ⟨l1, l2⟩
            · left; omega
            · right
              refine ⟨by omega, ?_⟩
              rcases l2 with l2 | l2
              · left; rw [l2]
              · right; exact .inr ⟨rfl, l2⟩
          · rcases q with q | ⟨q, q'⟩
            · left; omega
            · rcases l1 with l1 | ⟨l1, _⟩
              · left; omega
              · right
                exact ⟨by omega, .inr (.inl (by omega))⟩
theorem best_eq (a : Abs) : a.best = tell a a.spots 0 := by
  unfold Abs.best
  rw [table_eq, List.getD_eq_getElem?_getD, List.getElem?_map]
  have : a.sizes[a.cap]? = some 0 := by
    unfold Abs.sizes
    rw [List.getElem?_map, List.getElem?_range (by omega)]
    simp
  rw [this]
  rfl
theorem spots_len (a : Abs) : a.spots.length = a.n := by simp [Abs.spots]
theorem range_sum_le (h d : Nat → Int) (F : Nat → Spot) (H : ∀ i, max (F i).extra 0 ≤ h i) (D : ∀ i, max (-(F i).extra) 0 ≤ d i) : ∀ l : List Nat, plenty (l.map F) ≤ (l.map h).sum ∧ lack (l.map F) ≤ (l.map d).sum
  | [] => by simp [plenty, lack]
  | i :: l => by
    have ih := range_sum_le h d F H D l
    have := H i
    have := D i
    simp only [List.map_cons, plenty, lack, List.sum_cons]
    omega
theorem map_getD_range (l : List Nat) : (List.range l.length).map (fun i => l.getD i 0) = l := by
  apply List.ext_getElem?
  intro i
  rw [List.getElem?_map]
  by_cases h : i < l.length
  · rw [List.getElem?_range h, List.getElem?_eq_getElem h]
    simp [List.getD_eq_getElem?_getD, List.getElem?_eq_getElem h]
  · rw [List.getElem?_eq_none (by simpa using h), List.getElem?_eq_none (by simpa using h)]
    rfl
theorem sum_cast : ∀ l : List Nat, (l.map fun x : Nat => (x : Int)).sum = (l.sum : Int)
  | [] => rfl
  | x :: l => by simp only [List.map_cons, List.sum_cons, sum_cast l]; omega
theorem spots_cap {a : Abs} (h : a.need.length = a.n) : lack a.spots ≤ a.cap ∧ plenty a.spots ≤ a.cap := by
  have q := range_sum_le (fun i => (a.have_.getD i 0 : Int)) (fun i => (a.need.getD i 0 : Int)) a.spot (fun i => by simp only [Abs.spot]; omega) (fun i => by simp only [Abs.spot]; omega) (List.range a.n)
  have e1 : ((List.range a.n).map fun i => ((a.have_.getD i 0 : Nat) : Int)).sum = (a.have_.sum : Int) := by
    rw [← sum_cast]
    conv => rhs; rw [← map_getD_range a.have_]
    rw [List.map_map]
    rfl
  have e2 : ((List.range a.n).map fun i => ((a.need.getD i 0 : Nat) : Int)).sum = (a.need.sum : Int) := by
    rw [← sum_cast]
    conv => rhs; rw [← map_getD_range a.need]
    rw [List.map_map, h]
    rfl
  rw [e1, e2] at q
  unfold Abs.cap Abs.spots
  omega
theorem best_tells {a : Abs} (ht : 0 < a.step) (h : a.need.length = a.n) : Tells a (fun _ => True) a.spots 0 a.best := by
  rw [best_eq]
  have := spots_cap h
  exact (tell_tells a a.spots 0).all ht this.1 this.2
end Haul
end
section
namespace Haul
open Kv364
def over : List Spot → Int
  | [] => 0
  | s :: l => s.extra + over l
def canFrom (l : List Spot) (f : Int) : Prop := f + over l = 0 ∨ (0 < f + over l ∧ ∃ s ∈ l, s.spoil.isSome = true) ∨ (f + over l < 0 ∧ ∃ s ∈ l, s.borrow.isSome = true)
theorem price_borrow {s : Spot} {x : Int} (hx : 0 < x) (h : s.borrow.isSome = true) : ∃ p, s.price x = some p := by
  obtain ⟨q, hq⟩ := Option.isSome_iff_exists.mp h
  exact ⟨(q : Int) * x, by simp only [Spot.price]; rw [if_neg (by omega), if_pos hx, hq]; rfl⟩
theorem price_spoil {s : Spot} {x : Int} (hx : x < 0) (h : s.spoil.isSome = true) : ∃ p, s.price x = some p := by
  obtain ⟨q, hq⟩ := Option.isSome_iff_exists.mp h
  exact ⟨(q : Int) * (-x), by simp only [Spot.price]; rw [if_neg (by omega), if_neg (by omega), hq]; rfl⟩
theorem price_pos {s : Spot} {x p : Int} (hx : 0 < x) (h : s.price x = some p) : s.borrow.isSome = true := by
  simp only [Spot.price] at h
  rw [if_neg (by omega), if_pos hx] at h
  cases hb : s.borrow with
  | none => rw [hb] at h; cases h
  | some q => rfl
theorem price_neg {s : Spot} {x p : Int} (hx : x < 0) (h : s.price x = some p) : s.spoil.isSome = true := by
  simp only [Spot.price] at h
  rw [if_neg (by omega), if_neg (by omega)] at h
  cases hb : s.spoil with
  | none => rw [hb] at h; cases h
  | some q => rfl
theorem can_of_way {a : Abs} : ∀ {l : List Spot} {f : Int} {gs : List Int} {c : Int}, a.costs l f gs = some c → canFrom l f
  | [], f, [], c, h => by obtain ⟨rfl, _⟩ := costs_nil.mp h; left; simp [over]
  | [], _, g :: r, _, h => by rw [costs_cons_nil] at h; cases h
  | s :: l, _, [], _, h => by rw [costs_nil_cons] at h; cases h
  | s :: l, f, g :: r, c, h => by
    obtain ⟨p, c', hp, hc, rfl⟩ := costs_cons.mp h
    have ih := can_of_way hc
    unfold canFrom at ih ⊢
    simp only [over]
    by_cases h1 : f + (s.extra + over l) = 0
    · exact .inl h1
    · right
      by_cases h2 : 0 < f + (s.extra + over l)
      · left
        refine ⟨h2, ?_⟩
        by_cases hx : g - f - s.extra < 0
        · exact ⟨s, List.mem_cons_self, price_neg hx hp⟩
        · rcases ih with ih | ⟨_, s', hs', e⟩ | ⟨ih, _⟩
          · omega
          · exact ⟨s', List.mem_cons_of_mem _ hs', e⟩
          · omega
      · right
        refine ⟨by omega, ?_⟩
        by_cases hx : 0 < g - f - s.extra
        · exact ⟨s, List.mem_cons_self, price_pos hx hp⟩
        · rcases ih with ih | ⟨ih, _⟩ | ⟨_, s', hs', e⟩
          · omega
          · omega
          · exact ⟨s', List.mem_cons_of_mem _ hs', e⟩
theorem way_of_can {a : Abs} : ∀ {l : List Spot} {f : Int}, canFrom l f → ∃ gs c, a.costs l f gs = some c
  | [], f, h => by
    rcases h with h | ⟨_, s, hs, _⟩ | ⟨_, s, hs, _⟩
    · simp only [over] at h
      exact ⟨[], 0, costs_nil.mpr ⟨by omega, rfl⟩⟩
    · cases hs
    · cases hs
  | s :: l, f, h => by
    have go : ∀ (g x : Int), g - f - s.extra = x → (∃ p, s.price x = some p) → canFrom l g → ∃ gs c, a.costs (s :: l) f gs = some c := by
      intro g x e ⟨p, hp⟩ hg
      obtain ⟨gs, c, hc⟩ := way_of_can hg
      exact ⟨g :: gs, _, costs_cons.mpr ⟨p, c, by rw [e]; exact hp, hc, rfl⟩⟩
    unfold canFrom at h
    simp only [over] at h
    by_cases h1 : f + (s.extra + over l) = 0
    · exact go (f + s.extra) 0 (by omega) ⟨0, price_zero⟩ (.inl (by omega))
    · rcases h with h | ⟨h2, s', hs', e⟩ | ⟨h2, s', hs', e⟩
      · exact (h1 h).elim
      · rcases List.mem_cons.mp hs' with rfl | hs'
        · exact go (-(over l)) (-(f + (s'.extra + over l))) (by omega) (price_spoil (by omega) e) (.inl (by omega))
        · exact go (f + s.extra) 0 (by omega) ⟨0, price_zero⟩ (.inr (.inl ⟨by omega, s', hs', e⟩))
      · rcases List.mem_cons.mp hs' with rfl | hs'
        · exact go (-(over l)) (-(f + (s'.extra + over l))) (by omega) (price_borrow (by omega) e) (.inl (by omega))
        · exact go (f + s.extra) 0 (by omega) ⟨0, price_zero⟩ (.inr (.inr ⟨by omega, s', hs', e⟩))
theorem over_map (h d : Nat → Int) (F : Nat → Spot) (H : ∀ i, (F i).extra = h i - d i) : ∀ l : List Nat, over (l.map F) = (l.map h).sum - (l.map d).sum
  | [] => by simp [over]
  | i :: l => by
    have ih := over_map h d F H l
    have := H i
    simp only [List.map_cons, over, List.sum_cons]
    omega
theorem over_spots {a : Abs} (h : a.need.length = a.n) : over a.spots = (a.have_.sum : Int) - (a.need.sum : Int) := by
  have q := over_map (fun i => (a.have_.getD i 0 : Int)) (fun i => (a.need.getD i 0 : Int)) a.spot (fun i => rfl) (List.range a.n)
  have e1 : ((List.range a.n).map fun i => ((a.have_.getD i 0 : Nat) : Int)).sum = (a.have_.sum : Int) := by
    rw [← sum_cast]
    conv => rhs; rw [← map_getD_range a.have_]
    rw [List.map_map]
    rfl
  have e2 : ((List.range a.n).map fun i => ((a.need.getD i 0 : Nat) : Int)).sum = (a.need.sum : Int) := by
    rw [← sum_cast]
    conv => rhs; rw [← map_getD_range a.need]
    rw [List.map_map, h]
    rfl
  rw [e1, e2] at q
  exact q
theorem ex_spots {a : Abs} {sel : Spot → Option Nat} {L : List (Option Nat)} (hs : ∀ i, sel (a.spot i) = L.getD i none) (hl : L.length = a.n) : (∃ s ∈ a.spots, (sel s).isSome = true) ↔ ∃ x ∈ L, x.isSome = true := by
  unfold Abs.spots
  constructor
  · rintro ⟨s, hs', e⟩
    obtain ⟨i, hi, rfl⟩ := List.mem_map.mp hs'
    rw [hs] at e
    have hi := List.mem_range.mp hi
    rw [List.getD_eq_getElem?_getD, List.getElem?_eq_getElem (by omega)] at e
    exact ⟨_, List.getElem_mem (by omega), e⟩
  · rintro ⟨x, hx, e⟩
    obtain ⟨i, hi, rfl⟩ := List.mem_iff_getElem.mp hx
    refine ⟨a.spot i, List.mem_map.mpr ⟨i, List.mem_range.mpr (by omega), rfl⟩, ?_⟩
    rw [hs, List.getD_eq_getElem?_getD, List.getElem?_eq_getElem (by omega)]
    exact e
structure Fine (a : Abs) : Prop where
  need : a.need.length = a.n
  borrow : a.borrow.length = a.n
  spoil : a.spoil.length = a.n
  step : 0 < a.step
theorem best_some_iff {a : Abs} (F : Fine a) : a.best.isSome = true ↔ (a.have_.sum = a.need.sum ∨ (a.need.sum < a.have_.sum ∧ ∃ x ∈ a.spoil, x.isSome = true) ∨ (a.have_.sum < a.need.sum ∧ ∃ x ∈ a.borrow, x.isSome = true)) := by
  have t := best_tells F.step F.need
  have e1 := ex_spots (sel := Spot.spoil) (L := a.spoil) (fun _ => rfl) F.spoil
  have e2 := ex_spots (sel := Spot.borrow) (L := a.borrow) (fun _ => rfl) F.borrow
  have eo := over_spots F.need
  have key : a.best.isSome = true ↔ canFrom a.spots 0 := by
    cases hb : a.best with
    | none =>
      rw [hb] at t
      refine ⟨fun h => (by cases h), fun h => ?_⟩
      obtain ⟨gs, c, hc⟩ := way_of_can (a := a) h
      exact (t gs c hc trivial).elim
    | some b =>
      rw [hb] at t
      exact ⟨fun _ => can_of_way t.way, fun _ => rfl⟩
  rw [key]
  unfold canFrom
  rw [e1, e2, eo]
  constructor
  · rintro (h | ⟨h, q⟩ | ⟨h, q⟩)
    · exact .inl (by omega)
    · exact .inr (.inl ⟨by omega, q⟩)
    · exact .inr (.inr ⟨by omega, q⟩)
  · rintro (h | ⟨h, q⟩ | ⟨h, q⟩)
    · exact .inl (by omega)
    · exact .inr (.inl ⟨by omega, q⟩)
    · exact .inr (.inr ⟨by omega, q⟩)
end Haul
end
section
namespace Haul
open Kv364
def mostStep (b x : Option Said) : Option Said := match b, x with
  | none, x => x
  | some b, none => some b
  | some b, some x => if b.say_ < x.say_ then some x else some b
theorem most_go {ι : Type} {R : ι → ι → Prop} (F : ι → Option Said) : ∀ (xs : List ι), xs.Pairwise R → ∀ (acc r : Option Said), (xs.map F).foldl mostStep acc = r →
    match r with
    | none => acc = none ∧ ∀ g ∈ xs, F g = none
    | some b => (acc = some b ∧ ∀ g' ∈ xs, ∀ b', F g' = some b' → b'.say_ ≤ b.say_) ∨
      (∃ g ∈ xs, F g = some b ∧ (∀ a, acc = some a → a.say_ < b.say_) ∧ ∀ g' ∈ xs, ∀ b', F g' = some b' → b'.say_ < b.say_ ∨ (b'.say_ = b.say_ ∧ (g = g' ∨ R g g')))
  | [], _, acc, r, h => by
    subst h
    cases acc with
    | none => exact ⟨rfl, fun g hg => by cases hg⟩
    | some b => exact .inl ⟨rfl, fun g hg => by cases hg⟩
  | x :: xs, hp, acc, r, h => by
    have hp2 := (List.pairwise_cons.mp hp).2
    have hx := (List.pairwise_cons.mp hp).1
    have ih := most_go F xs hp2 (mostStep acc (F x)) r h
    cases r with
    | none =>
      obtain ⟨e, q⟩ := ih
      cases ha : acc with
      | none =>
        rw [ha] at e
        exact ⟨rfl, fun g hg => by
          rcases List.mem_cons.mp hg with rfl | hg
          · exact e
          · exact q g hg⟩
      | some a =>
        rw [ha] at e
        cases hf : F x with
        | none => rw [hf] at e; cases e
        | some y =>
          rw [hf] at e
          simp only [mostStep] at e
          split at e <;> cases e
    | some b =>
      rcases ih with ⟨e, q⟩ | ⟨g, hg, e, q, m⟩
      · cases hf : F x with
        | none =>
          rw [hf] at e
          have ea : acc = some b := by
            cases ha : acc with
            | none => rw [ha] at e; cases e
            | some a => rw [ha] at e; exact e
          exact .inl ⟨ea, fun g' hg' b' hb' => by
            rcases List.mem_cons.mp hg' with rfl | hg'
            · rw [hf] at hb'; cases hb'
            · exact q g' hg' b' hb'⟩
        | some y =>
          rw [hf] at e
          have fin : y = b → (∀ a, acc = some a → a.say_ < b.say_) → ∃ g ∈ x :: xs, F g = some b ∧ (∀ a, acc = some a → a.say_ < b.say_) ∧ ∀ g' ∈ x :: xs, ∀ b', F g' = some b' → b'.say_ < b.say_ ∨ (b'.say_ = b.say_ ∧ (g = g' ∨ R g g')) := by
            intro ey hacc
            subst ey
            refine ⟨x, List.mem_cons_self, hf, hacc, fun g' hg' b' hb' => ?_⟩
            rcases List.mem_cons.mp hg' with rfl | hg'
            · rw [hf] at hb'; cases hb'; exact .inr ⟨rfl, .inl rfl⟩
            · have h1 := q g' hg' b' hb'
              have h2 := hx g' hg'
              by_cases h3 : b'.say_ < y.say_
              · exact .inl h3
              · exact .inr ⟨by omega, .inr h2⟩
          cases ha : acc with
          | none =>
            rw [ha] at e fin
            exact .inr (fin (Option.some.inj e) (fun a h => by cases h))
          | some a =>
            rw [ha] at e fin
            simp only [mostStep] at e
            split at e
            · rename_i hlt
              have ey : y = b := Option.some.inj e
              exact .inr (fin ey (fun a' h => by cases h; rw [← ey]; exact hlt))
            · have ey : a = b := Option.some.inj e
              subst ey
              rename_i hlt
              refine .inl ⟨rfl, fun g' hg' b' hb' => ?_⟩
              rcases List.mem_cons.mp hg' with rfl | hg'
              · rw [hf] at hb'; cases hb'; omega
              · exact q g' hg' b' hb'
      · refine .inr ⟨g, List.mem_cons_of_mem _ hg, e, fun a ha => ?_, fun g' hg' b' hb' => ?_⟩
        · subst ha
          cases hf : F x with
          | none => rw [hf] at q; exact q a rfl
          | some y =>
            rw [hf] at q
            simp only [mostStep] at q
            split at q
            · have := q y rfl; omega
            · exact q a rfl
        · rcases List.mem_cons.mp hg' with rfl | hg'
          · rw [hb'] at q
            cases ha : acc with
            | none => rw [ha] at q; exact .inl (q b' rfl)
            | some a =>
              rw [ha] at q
              simp only [mostStep] at q
              split at q
              · exact .inl (q b' rfl)
              · have := q a rfl; left; omega
          · exact m g' hg' b' hb'
theorem most_some {ι : Type} {R : ι → ι → Prop} {F : ι → Option Said} {xs : List ι} (hp : xs.Pairwise R) {b : Said} (h : most (xs.map F) = some b) :
    ∃ g ∈ xs, F g = some b ∧ ∀ g' ∈ xs, ∀ b', F g' = some b' → b'.say_ < b.say_ ∨ (b'.say_ = b.say_ ∧ (g = g' ∨ R g g')) := by
  have := most_go F xs hp none (some b) h
  rcases this with ⟨e, _⟩ | ⟨g, hg, e, _, m⟩
  · cases e
  · exact ⟨g, hg, e, m⟩
theorem most_none {ι : Type} {R : ι → ι → Prop} {F : ι → Option Said} {xs : List ι} (hp : xs.Pairwise R) (h : most (xs.map F) = none) : ∀ g ∈ xs, F g = none :=
  (most_go F xs hp none none h).2
def Row (t : Nat) : List Spot → List Int → Int → Prop
  | [], us, c => us = [] ∧ c = 0
  | s :: l, us, c => ∃ u r d, us = u :: r ∧ s.allows u = true ∧ -130 ≤ u ∧ u ≤ 130 ∧ (∀ v ∈ r.head?, v - u ≤ (t : Int) ∧ u - v ≤ (t : Int)) ∧ Row t l r d ∧ c = -(s.extra) * u + d
structure BestRow (t : Nat) (l : List Spot) (u : Int) (c : Int) (us : List Int) : Prop where
  row : Row t l us c
  head : us.head? = some u
  most : ∀ us' c', Row t l us' c' → us'.head? = some u → c' < c ∨ (c' = c ∧ (us = us' ∨ LexLt us us'))
def Words (t : Nat) (l : List Spot) (u : Int) : Option Said → Prop
  | some b => BestRow t l u b.say_ b.prices
  | none => ∀ us c, Row t l us c → us.head? = some u → False
def word (a : Abs) : List Spot → Nat → Option Said
  | [], _ => some ⟨0, []⟩
  | s :: l, i => if s.allows ((i : Int) - 130) = false then none else
      (if l.isEmpty then some ⟨0, []⟩ else most ((((List.range 261).drop (i - a.step)).take (i + a.step + 1 - (i - a.step))).map (word a l))).map fun b => ⟨-(s.extra) * ((i : Int) - 130) + b.say_, ((i : Int) - 130) :: b.prices⟩
theorem words_eq (a : Abs) : ∀ l, a.words l = (List.range 261).map (word a l)
  | [] => by
    show List.map _ (List.map _ _) = _
    rw [List.map_map]
    rfl
  | s :: l => by
    have ih := words_eq a l
    simp only [Abs.words, ih]
    refine List.map_congr_left fun i _ => ?_
    rw [← List.map_drop, ← List.map_take]
    rfl
theorem win_mem {i t j : Nat} : j ∈ ((List.range 261).drop (i - t)).take (i + t + 1 - (i - t)) ↔ j < 261 ∧ i ≤ j + t ∧ j ≤ i + t := by
  rw [List.mem_iff_getElem?]
  constructor
  · rintro ⟨k, hk⟩
    rw [List.getElem?_take] at hk
    split at hk
    · rw [List.getElem?_drop] at hk
      have := (List.getElem?_eq_some_iff.mp hk).1
      rw [List.length_range] at this
      rw [List.getElem?_range this] at hk
      have := Option.some.inj hk
      omega
    · cases hk
  · rintro ⟨h1, h2, h3⟩
    refine ⟨j - (i - t), ?_⟩
    rw [List.getElem?_take, if_pos (by omega), List.getElem?_drop, show i - t + (j - (i - t)) = j by omega]
    exact List.getElem?_range h1
theorem win_pw {i t : Nat} : (((List.range 261).drop (i - t)).take (i + t + 1 - (i - t))).Pairwise (· < ·) :=
  List.pairwise_lt_range.sublist ((List.take_sublist _ _).trans (List.drop_sublist _ _))
theorem row_cons {t : Nat} {s : Spot} {l : List Spot} {u : Int} {r : List Int} {c : Int} :
    Row t (s :: l) (u :: r) c ↔ ∃ d, s.allows u = true ∧ -130 ≤ u ∧ u ≤ 130 ∧ (∀ v ∈ r.head?, v - u ≤ (t : Int) ∧ u - v ≤ (t : Int)) ∧ Row t l r d ∧ c = -(s.extra) * u + d := by
  constructor
  · rintro ⟨u', r', d, e, h⟩
    cases e
    exact ⟨d, h⟩
  · rintro ⟨d, h⟩
    exact ⟨u, r, d, rfl, h⟩
theorem row_head {t : Nat} {s : Spot} {l : List Spot} {us : List Int} {c : Int} (h : Row t (s :: l) us c) : ∃ u, us.head? = some u ∧ -130 ≤ u ∧ u ≤ 130 := by
  obtain ⟨u, r, d, rfl, _, h1, h2, _⟩ := h
  exact ⟨u, rfl, h1, h2⟩
theorem word_words (a : Abs) : ∀ (l : List Spot) (i : Nat), l ≠ [] → i < 261 → Words a.step l ((i : Int) - 130) (word a l i)
  | [], _, h, _ => (h rfl).elim
  | s :: l, i, _, hi => by
    unfold word
    split
    · rename_i h
      intro us c ⟨u, r, d, e, ha, _⟩ hh
      subst e
      have eu : u = (i : Int) - 130 := Option.some.inj hh
      rw [eu, h] at ha
      cases ha
    · rename_i hal
      have hal : s.allows ((i : Int) - 130) = true := by
        cases h : s.allows ((i : Int) - 130)
        · exact (hal h).elim
        · rfl
      cases l with
      | nil =>
        simp only [List.isEmpty_nil, if_true, Option.map_some]
        refine ⟨row_cons.mpr ⟨0, hal, by omega, by omega, fun v hv => (by cases hv), ⟨rfl, rfl⟩, rfl⟩, rfl, ?_⟩
        rintro us' c' ⟨u, r, d, rfl, _, _, _, _, ⟨rfl, rfl⟩, rfl⟩ hh
        have eu : u = (i : Int) - 130 := Option.some.inj hh
        rw [eu]
        exact .inr ⟨rfl, .inl rfl⟩
      | cons s2 l2 =>
        have ih : ∀ j : Nat, j < 261 → Words a.step (s2 :: l2) ((j : Int) - 130) (word a (s2 :: l2) j) := fun j hj => word_words a (s2 :: l2) j (by simp) hj
        simp only [List.isEmpty_cons, Bool.false_eq_true, if_false]
        have low : ∀ {us : List Int} {c : Int}, Row a.step (s :: s2 :: l2) us c → us.head? = some ((i : Int) - 130) → ∃ (r : List Int) (d : Int) (j : Nat), us = ((i : Int) - 130) :: r ∧ Row a.step (s2 :: l2) r d ∧ r.head? = some ((j : Int) - 130) ∧ j ∈ ((List.range 261).drop (i - a.step)).take (i + a.step + 1 - (i - a.step)) ∧ c = -(s.extra) * ((i : Int) - 130) + d := by
          rintro us c ⟨u, r, d, rfl, _, _, _, hv, hr, rfl⟩ hh
          have eu : u = (i : Int) - 130 := Option.some.inj hh
          subst eu
          obtain ⟨v, ev, v1, v2⟩ := row_head hr
          have := hv v (by rw [ev]; rfl)
          refine ⟨r, d, (v + 130).toNat, rfl, hr, ?_, win_mem.mpr ⟨by omega, by omega, by omega⟩, rfl⟩
          rw [ev]
          congr 1
          omega
        cases e : most (List.map (word a (s2 :: l2)) (((List.range 261).drop (i - a.step)).take (i + a.step + 1 - (i - a.step)))) with
        | none =>
          intro us c hr hh
          obtain ⟨r, d, j, rfl, hr', hj, hm, _⟩ := low hr hh
          have q := most_none win_pw e j hm
          have w := ih j (win_mem.mp hm).1
          rw [q] at w
          exact w _ _ hr' hj
        | some b =>
          obtain ⟨j, hj, hb, hm⟩ := most_some win_pw e
          have hj' := win_mem.mp hj
          have w := ih j hj'.1
          rw [hb] at w
          refine ⟨row_cons.mpr ⟨b.say_, hal, by omega, by omega, fun v hv => ?_, w.row, rfl⟩, rfl, fun us' c' hr hh => ?_⟩
          · rw [w.head] at hv
            have : (j : Int) - 130 = v := Option.some.inj hv
            omega
          · obtain ⟨r, d, j', rfl, hr', hjh, hjm, rfl⟩ := low hr hh
            have w' := ih j' (win_mem.mp hjm).1
            dsimp only
            cases e' : word a (s2 :: l2) j' with
            | none => rw [e'] at w'; exact (w' _ _ hr' hjh).elim
            | some b' =>
              rw [e'] at w'
              have q := hm j' hjm b' e'
              have m' := w'.most _ _ hr' hjh
              by_cases hjj : j = j'
              · subst hjj
                rw [hb] at e'
                cases e'
                rcases m' with m' | ⟨m1, m2⟩
                · left; omega
                · right
                  refine ⟨by omega, ?_⟩
                  rcases m2 with m2 | m2
                  · left; rw [m2]
                  · right; exact .inr ⟨rfl, m2⟩
              · rcases q with q | ⟨q, q' | q'⟩
                · left; omega
                · exact (hjj q').elim
                · rcases m' with m' | ⟨m1, _⟩
                  · left; omega
                  · right
                    refine ⟨by omega, .inr (.inr ⟨rfl, ?_⟩)⟩
                    obtain ⟨p, hbp⟩ : ∃ p, b.prices = ((j : Int) - 130) :: p := by
                      have hd := w.head
                      cases hbp : b.prices with
                      | nil => rw [hbp] at hd; cases hd
                      | cons x p => rw [hbp] at hd; exact ⟨p, by rw [Option.some.inj hd]⟩
                    cases r with
                    | nil => cases hjh
                    | cons y r2 =>
                      have ey : y = (j' : Int) - 130 := Option.some.inj hjh
                      rw [hbp]
                      left
                      omega
def ord : List Int := ((worths.filter fun u => decide (u ≤ 0)).reverse.zip (worths.filter fun u => decide (0 ≤ u))).flatMap fun p => if p.1 = 0 then [p.1] else [p.1, p.2]
def Nearer (u v : Int) : Prop := u.natAbs < v.natAbs ∨ (u.natAbs = v.natAbs ∧ u < v)
instance : DecidableRel Nearer := fun u v => inferInstanceAs (Decidable (_ ∨ _))
theorem ord_pw : ord.Pairwise Nearer := by decide +kernel
theorem ord_in : ∀ u ∈ ord, -130 ≤ u ∧ u ≤ 130 := by decide +kernel
theorem ord_all : ∀ k : Fin 261, ((k : Nat) : Int) - 130 ∈ ord := by decide +kernel
theorem mem_ord {u : Int} : u ∈ ord ↔ -130 ≤ u ∧ u ≤ 130 := by
  refine ⟨ord_in u, fun h => ?_⟩
  have := ord_all ⟨(u + 130).toNat, by omega⟩
  rw [show (((⟨(u + 130).toNat, by omega⟩ : Fin 261) : Nat) : Int) - 130 = u by show (((u + 130).toNat : Nat) : Int) - 130 = u; omega] at this
  exact this
theorem prices_eq (a : Abs) : a.prices = most (ord.map fun u => word a a.spots (u + 130).toNat) := by
  have e : a.prices = most (ord.map fun u => (a.words a.spots).getD (u + (FAR : Int)).toNat none) := by
    unfold Abs.prices ord
    rw [List.map_flatMap]
  rw [e]
  refine congrArg most (List.map_congr_left fun u hu => ?_)
  have hu := mem_ord.mp hu
  rw [words_eq, List.getD_eq_getElem?_getD, List.getElem?_map, List.getElem?_range (by show (u + 130).toNat < 261; omega)]
  rfl
structure Told (t : Nat) (l : List Spot) (c : Int) (us : List Int) : Prop where
  row : Row t l us c
  most : ∀ us' c', Row t l us' c' → c' < c ∨ (c' = c ∧ (us = us' ∨ (∃ u u', us.head? = some u ∧ us'.head? = some u' ∧ (Nearer u u' ∨ (u = u' ∧ LexLt us us')))))
theorem zero_row (t : Nat) : ∀ l : List Spot, ∃ c, Row t l (List.replicate l.length 0) c
  | [] => ⟨0, rfl, rfl⟩
  | s :: l => by
    obtain ⟨d, hd⟩ := zero_row t l
    refine ⟨-(s.extra) * 0 + d, row_cons.mpr ⟨d, ?_, by omega, by omega, fun v hv => ?_, hd, rfl⟩⟩
    · unfold Spot.allows
      cases s.borrow <;> cases s.spoil <;> simp <;> omega
    · cases l with
      | nil => cases hv
      | cons s2 l2 =>
        have : (0 : Int) = v := Option.some.inj hv
        omega
theorem prices_told {a : Abs} (h : a.spots ≠ []) : ∃ b, a.prices = some b ∧ Told a.step a.spots b.say_ b.prices := by
  have pw := ord_pw
  have hw : ∀ u, -130 ≤ u ∧ u ≤ 130 → Words a.step a.spots u (word a a.spots (u + 130).toNat) := fun u hu => by
    have := word_words a a.spots (u + 130).toNat h (by omega)
    rw [show (((u + 130).toNat : Nat) : Int) - 130 = u by omega] at this
    exact this
  have hh : ∀ {us c}, Row a.step a.spots us c → ∃ u, us.head? = some u ∧ -130 ≤ u ∧ u ≤ 130 := by
    intro us c hr
    cases hs : a.spots with
    | nil => exact (h hs).elim
    | cons s l => rw [hs] at hr; exact row_head hr
  cases e : a.prices with
  | none =>
    rw [prices_eq] at e
    have q := most_none (R := Nearer) pw e
    obtain ⟨c, hr⟩ := zero_row a.step a.spots
    obtain ⟨u, hu, h1⟩ := hh hr
    have w := hw u h1
    rw [q u (mem_ord.mpr h1)] at w
    exact (w _ _ hr hu).elim
  | some b =>
    rw [prices_eq] at e
    obtain ⟨u, hu, hb, hm⟩ := most_some pw e
    have hu' := mem_ord.mp hu
    have w := hw u hu'
    rw [hb] at w
    refine ⟨b, rfl, w.row, fun us' c' hr => ?_⟩
    obtain ⟨u', e', h1⟩ := hh hr
    have w' := hw u' h1
    cases hb' : word a a.spots (u' + 130).toNat with
    | none => rw [hb'] at w'; exact (w' _ _ hr e').elim
    | some b' =>
      have q := hm u' (mem_ord.mpr h1) b' hb'
      rw [hb'] at w'
      have m' := w'.most _ _ hr e'
      by_cases huu : u = u'
      · subst huu
        rw [hb] at hb'
        cases hb'
        rcases m' with m' | ⟨m1, m2⟩
        · exact .inl m'
        · refine .inr ⟨m1, ?_⟩
          rcases m2 with m2 | m2
          · exact .inl m2
          · exact .inr ⟨u, u, w.head, e', .inr ⟨rfl, m2⟩⟩
      · rcases q with q | ⟨q, q' | q'⟩
        · left; omega
        · exact (huu q').elim
        · rcases m' with m' | ⟨m1, _⟩
          · left; omega
          · exact .inr ⟨by omega, .inr ⟨u, u', w.head, e', .inl q'⟩⟩
theorem Told.unique {t : Nat} {l : List Spot} {c c' : Int} {us us' : List Int} (h : Told t l c us) (h' : Told t l c' us') : c = c' ∧ us = us' := by
  have q := h.most _ _ h'.row
  have q' := h'.most _ _ h.row
  refine ⟨by omega, ?_⟩
  rcases q with q | ⟨_, q⟩
  · omega
  · rcases q with q | ⟨u, u', e1, e2, q⟩
    · exact q
    · rcases q' with q' | ⟨_, q'⟩
      · omega
      · rcases q' with q' | ⟨v', v, f1, f2, q'⟩
        · exact q'.symm
        · rw [e1] at f2
          rw [e2] at f1
          cases f1
          cases f2
          exfalso
          unfold Nearer at q q'
          rcases q with q | ⟨rfl, q⟩
          · rcases q' with q' | ⟨rfl, q'⟩ <;> omega
          · rcases q' with q' | ⟨_, q'⟩
            · omega
            · exact lex_asymm q q'
end Haul
end
section
namespace Haul
open Kv364
def NEVER : Int := 1000000
def mn (a b : Int) : Int := if b < a then b else a
theorem mn_le1 (a b : Int) : mn a b ≤ a := by unfold mn; split <;> omega
theorem mn_le2 (a b : Int) : mn a b ≤ b := by unfold mn; split <;> omega
theorem mn_or (a b : Int) : mn a b = a ∨ mn a b = b := by unfold mn; split <;> simp
def wb (p : Int) : List Int → List Int
  | [] => []
  | x :: r => match wb p r with
    | [] => [x]
    | z :: t => mn x (z + p) :: z :: t
theorem wb_len (p : Int) : ∀ xs, (wb p xs).length = xs.length
  | [] => rfl
  | x :: r => by
    have ih := wb_len p r
    unfold wb
    split
    · rename_i h; rw [h] at ih; simp only [List.length_nil, List.length_cons] at ih ⊢; omega
    · rename_i z t h; rw [h] at ih; simp only [List.length_cons] at ih ⊢; omega
theorem wb_cons (p x : Int) (r : List Int) : wb p (x :: r) = (if r = [] then x else mn x ((wb p r).getD 0 0 + p)) :: wb p r := by
  cases r with
  | nil => rfl
  | cons y r2 =>
    rw [if_neg (by simp)]
    have ih := wb_len p (y :: r2)
    conv => lhs; unfold wb
    split
    · rename_i h; rw [h] at ih; simp at ih
    · rename_i z t h; rw [h]; rfl
theorem wb_low {p : Int} (hp : 0 ≤ p) : ∀ {xs : List Int} {k j : Nat}, k ≤ j → j < xs.length → (wb p xs).getD k 0 ≤ xs.getD j 0 + p * ((j : Int) - (k : Int))
  | [], k, j, _, h => by simp at h
  | x :: r, 0, 0, _, _ => by
    rw [wb_cons]
    simp only [List.getD_cons_zero]
    have e : p * (((0 : Nat) : Int) - ((0 : Nat) : Int)) = 0 := by simp
    split
    · omega
    · have := mn_le1 x ((wb p r).getD 0 0 + p); omega
  | x :: r, 0, j + 1, _, h => by
    rw [wb_cons]
    simp only [List.getD_cons_zero, List.getD_cons_succ, List.length_cons] at h ⊢
    have ih := wb_low hp (xs := r) (k := 0) (j := j) (Nat.zero_le _) (by omega)
    rw [if_neg (by intro e; rw [e] at h; simp at h)]
    have := mn_le2 x ((wb p r).getD 0 0 + p)
    have e : p * (((j + 1 : Nat) : Int) - ((0 : Nat) : Int)) = p * ((j : Int) - ((0 : Nat) : Int)) + p := by
      rw [show ((j + 1 : Nat) : Int) - ((0 : Nat) : Int) = ((j : Int) - ((0 : Nat) : Int)) + 1 by omega, Int.mul_add, Int.mul_one]
    omega
  | x :: r, k + 1, 0, h, _ => by omega
  | x :: r, k + 1, j + 1, h, h2 => by
    rw [wb_cons]
    simp only [List.getD_cons_succ, List.length_cons] at h2 ⊢
    have ih := wb_low hp (xs := r) (k := k) (j := j) (by omega) (by omega)
    rw [show ((j + 1 : Nat) : Int) - ((k + 1 : Nat) : Int) = (j : Int) - (k : Int) by omega]
    exact ih
theorem wb_at {p : Int} : ∀ {xs : List Int} {k : Nat}, k < xs.length → ∃ j, k ≤ j ∧ j < xs.length ∧ (wb p xs).getD k 0 = xs.getD j 0 + p * ((j : Int) - (k : Int))
  | [], k, h => by simp at h
  | x :: r, 0, _ => by
    rw [wb_cons]
    simp only [List.getD_cons_zero]
    split
    · exact ⟨0, Nat.le_refl _, by simp, by simp⟩
    · rename_i hr
      rcases mn_or x ((wb p r).getD 0 0 + p) with e | e
      · exact ⟨0, Nat.le_refl _, by simp, by rw [e]; simp⟩
      · obtain ⟨j, _, h2, h3⟩ := wb_at (p := p) (xs := r) (k := 0) (by cases r with | nil => exact (hr rfl).elim | cons _ _ => simp)
        refine ⟨j + 1, Nat.zero_le _, by simp; omega, ?_⟩
        rw [e, h3, List.getD_cons_succ, show ((j + 1 : Nat) : Int) - ((0 : Nat) : Int) = ((j : Int) - ((0 : Nat) : Int)) + 1 by omega, Int.mul_add, Int.mul_one]
        omega
  | x :: r, k + 1, h => by
    rw [wb_cons]
    simp only [List.getD_cons_succ, List.length_cons] at h ⊢
    obtain ⟨j, h1, h2, h3⟩ := wb_at (p := p) (xs := r) (k := k) (by omega)
    refine ⟨j + 1, by omega, by omega, ?_⟩
    rw [h3, List.getD_cons_succ, show ((j + 1 : Nat) : Int) - ((k + 1 : Nat) : Int) = (j : Int) - (k : Int) by omega]
def wsGo (p : Int) : Int → List Int → List Int
  | _, [] => []
  | c, x :: r => mn x (c + p) :: wsGo p (mn x (c + p)) r
def ws (p : Int) : List Int → List Int
  | [] => []
  | x :: r => x :: wsGo p x r
theorem wsGo_len (p : Int) : ∀ c xs, (wsGo p c xs).length = xs.length
  | _, [] => rfl
  | c, x :: r => by simp [wsGo, wsGo_len p _ r]
theorem ws_len (p : Int) (xs : List Int) : (ws p xs).length = xs.length := by cases xs <;> simp [ws, wsGo_len]
theorem wsGo_head {p : Int} (hp : 0 ≤ p) : ∀ {c : Int} {xs : List Int} {k : Nat}, k < xs.length → (wsGo p c xs).getD k 0 ≤ c + p * ((k : Int) + 1)
  | _, [], k, h => by simp at h
  | c, x :: r, 0, _ => by have := mn_le2 x (c + p); simp [wsGo]; omega
  | c, x :: r, k + 1, h => by
    simp only [wsGo, List.getD_cons_succ, List.length_cons] at h ⊢
    have ih := wsGo_head hp (c := mn x (c + p)) (xs := r) (k := k) (by omega)
    have := mn_le2 x (c + p)
    have e : p * (((k + 1 : Nat) : Int) + 1) = p * ((k : Int) + 1) + p := by
      rw [show ((k + 1 : Nat) : Int) + 1 = ((k : Int) + 1) + 1 by omega, Int.mul_add p ((k : Int) + 1), Int.mul_one]
    omega
theorem wsGo_low {p : Int} (hp : 0 ≤ p) : ∀ {c : Int} {xs : List Int} {k j : Nat}, j ≤ k → k < xs.length → (wsGo p c xs).getD k 0 ≤ xs.getD j 0 + p * ((k : Int) - (j : Int))
  | _, [], k, _, _, h => by simp at h
  | c, x :: r, 0, 0, _, _ => by have := mn_le1 x (c + p); simp [wsGo]; omega
  | c, x :: r, 0, j + 1, h, _ => by omega
  | c, x :: r, k + 1, 0, _, h => by
    simp only [wsGo, List.getD_cons_succ, List.getD_cons_zero, List.length_cons] at h ⊢
    have ih := wsGo_head hp (c := mn x (c + p)) (xs := r) (k := k) (by omega)
    have := mn_le1 x (c + p)
    rw [show ((k + 1 : Nat) : Int) - ((0 : Nat) : Int) = (k : Int) + 1 by omega]
    omega
  | c, x :: r, k + 1, j + 1, h, h2 => by
    simp only [wsGo, List.getD_cons_succ, List.length_cons] at h2 ⊢
    have ih := wsGo_low hp (c := mn x (c + p)) (xs := r) (k := k) (j := j) (by omega) (by omega)
    rw [show ((k + 1 : Nat) : Int) - ((j + 1 : Nat) : Int) = (k : Int) - (j : Int) by omega]
    exact ih
theorem wsGo_at {p : Int} : ∀ {c : Int} {xs : List Int} {k : Nat}, k < xs.length → (wsGo p c xs).getD k 0 = c + p * ((k : Int) + 1) ∨ ∃ j, j ≤ k ∧ (wsGo p c xs).getD k 0 = xs.getD j 0 + p * ((k : Int) - (j : Int))
  | _, [], k, h => by simp at h
  | c, x :: r, 0, _ => by
    rcases mn_or x (c + p) with e | e
    · right; exact ⟨0, Nat.le_refl _, by simp [wsGo, e]⟩
    · left; simp [wsGo, e]
  | c, x :: r, k + 1, h => by
    simp only [wsGo, List.getD_cons_succ, List.length_cons] at h ⊢
    rcases wsGo_at (p := p) (c := mn x (c + p)) (xs := r) (k := k) (by omega) with e | ⟨j, hj, e⟩
    · rcases mn_or x (c + p) with e2 | e2
      · right
        refine ⟨0, Nat.zero_le _, ?_⟩
        rw [e, e2, List.getD_cons_zero, show ((k + 1 : Nat) : Int) - ((0 : Nat) : Int) = (k : Int) + 1 by omega]
      · left
        rw [e, e2, show ((k + 1 : Nat) : Int) + 1 = ((k : Int) + 1) + 1 by omega, Int.mul_add p ((k : Int) + 1), Int.mul_one]
        omega
    · right
      refine ⟨j + 1, by omega, ?_⟩
      rw [e, List.getD_cons_succ, show ((k + 1 : Nat) : Int) - ((j + 1 : Nat) : Int) = (k : Int) - (j : Int) by omega]
theorem ws_low {p : Int} (hp : 0 ≤ p) {xs : List Int} {k j : Nat} (h : j ≤ k) (hk : k < xs.length) : (ws p xs).getD k 0 ≤ xs.getD j 0 + p * ((k : Int) - (j : Int)) := by
  cases xs with
  | nil => simp at hk
  | cons x r =>
    cases k with
    | zero =>
      have : j = 0 := by omega
      subst this
      simp [ws]
    | succ k =>
      simp only [ws, List.getD_cons_succ, List.length_cons] at hk ⊢
      cases j with
      | zero =>
        have := wsGo_head hp (c := x) (xs := r) (k := k) (by omega)
        rw [List.getD_cons_zero, show ((k + 1 : Nat) : Int) - ((0 : Nat) : Int) = (k : Int) + 1 by omega]
        exact this
      | succ j =>
        have := wsGo_low hp (c := x) (xs := r) (k := k) (j := j) (by omega) (by omega)
        rw [List.getD_cons_succ, show ((k + 1 : Nat) : Int) - ((j + 1 : Nat) : Int) = (k : Int) - (j : Int) by omega]
        exact this
theorem ws_at {p : Int} {xs : List Int} {k : Nat} (hk : k < xs.length) : ∃ j, j ≤ k ∧ (ws p xs).getD k 0 = xs.getD j 0 + p * ((k : Int) - (j : Int)) := by
  cases xs with
  | nil => simp at hk
  | cons x r =>
    cases k with
    | zero => exact ⟨0, Nat.le_refl _, by simp [ws]⟩
    | succ k =>
      simp only [ws, List.getD_cons_succ, List.length_cons] at hk ⊢
      rcases wsGo_at (p := p) (c := x) (xs := r) (k := k) (by omega) with e | ⟨j, hj, e⟩
      · refine ⟨0, Nat.zero_le _, ?_⟩
        rw [e, List.getD_cons_zero, show ((k + 1 : Nat) : Int) - ((0 : Nat) : Int) = (k : Int) + 1 by omega]
      · refine ⟨j + 1, by omega, ?_⟩
        rw [e, List.getD_cons_succ, show ((k + 1 : Nat) : Int) - ((j + 1 : Nat) : Int) = (k : Int) - (j : Int) by omega]
def pr : Option Nat → Int
  | none => -1
  | some p => (p : Int)
def hauled (t : Int) (xs : List Int) : List Int := xs.mapIdx fun k c => c + t * (if (k : Int) - 81 < 0 then -((k : Int) - 81) else (k : Int) - 81)
def bor (p : Int) (xs : List Int) : List Int := if p = -1 then xs else wb p xs
def spo (p : Int) (xs : List Int) : List Int := if p = -1 then xs else ws p xs
def moved (e : Int) (xs : List Int) : List Int := (List.range xs.length).map fun (k : Nat) => if 0 ≤ (k : Int) + e ∧ (k : Int) + e < xs.length then xs.getD ((k : Int) + e).toNat 0 else NEVER
def base : List Int := (List.replicate 163 NEVER).set 81 0
def tab (t : Nat) : List Spot → List Int
  | [] => base
  | s :: l => moved s.extra (spo (pr s.spoil) (bor (pr s.borrow) (hauled t (tab t l))))
theorem bor_len (p : Int) (xs : List Int) : (bor p xs).length = xs.length := by unfold bor; split; rfl; exact wb_len p xs
theorem spo_len (p : Int) (xs : List Int) : (spo p xs).length = xs.length := by unfold spo; split; rfl; exact ws_len p xs
theorem tab_len (t : Nat) : ∀ l, (tab t l).length = 163
  | [] => by simp [tab, base]
  | s :: l => by simp [tab, moved, spo_len, bor_len, hauled, tab_len t l]
def val (T : List Int) (f : Int) : Int := T.getD (f + 81).toNat 0
theorem val_base {f : Int} (h : -81 ≤ f ∧ f ≤ 81) : val base f = if f = 0 then 0 else NEVER := by
  unfold val base
  rw [List.getD_eq_getElem?_getD, List.getElem?_set]
  split
  · rw [if_pos (by rw [List.length_replicate]; decide), if_pos (by omega)]; rfl
  · rw [if_neg (by omega), List.getElem?_replicate, if_pos (by omega)]; rfl
theorem val_hauled {t : Nat} {T : List Int} (hT : T.length = 163) {g : Int} (h : -81 ≤ g ∧ g ≤ 81) : val (hauled t T) g = val T g + (t : Int) * (g.natAbs : Int) := by
  unfold val hauled
  rw [List.getD_eq_getElem?_getD, List.getElem?_mapIdx, List.getD_eq_getElem?_getD, List.getElem?_eq_getElem (by omega)]
  simp only [Option.map_some, Option.getD_some]
  congr 2
  split <;> omega
theorem val_bor_low {o : Option Nat} {T : List Int} (hT : T.length = 163) {h g : Int} (hh : -81 ≤ h) (hg : g ≤ 81) (le : h ≤ g) (ho : h = g ∨ ∃ p, o = some p) : ∃ p : Int, 0 ≤ p ∧ (h = g ∨ p = pr o) ∧ val (bor (pr o) T) h ≤ val T g + p * (g - h) := by
  cases o with
  | none =>
    rcases ho with rfl | ⟨_, e⟩
    · exact ⟨0, by omega, .inl rfl, by simp [bor, pr]⟩
    · cases e
  | some p =>
    refine ⟨p, by omega, .inr rfl, ?_⟩
    have q := wb_low (p := (p : Int)) (by omega) (xs := T) (k := (h + 81).toNat) (j := (g + 81).toNat) (by omega) (by omega)
    unfold val bor
    rw [if_neg (show ¬ pr (some p) = -1 by show ¬ (p : Int) = -1; omega)]
    rw [show (((g + 81).toNat : Nat) : Int) - (((h + 81).toNat : Nat) : Int) = g - h by omega] at q
    exact q
theorem val_bor_at {o : Option Nat} {T : List Int} (hT : T.length = 163) {h : Int} (hh : -81 ≤ h ∧ h ≤ 81) : ∃ g, h ≤ g ∧ g ≤ 81 ∧ ∃ p : Int, 0 ≤ p ∧ (h = g ∨ (p = pr o ∧ o.isSome = true)) ∧ val (bor (pr o) T) h = val T g + p * (g - h) := by
  cases o with
  | none => exact ⟨h, Int.le_refl _, hh.2, 0, by omega, .inl rfl, by simp [bor, pr]⟩
  | some p =>
    obtain ⟨j, h1, h2, h3⟩ := wb_at (p := (p : Int)) (xs := T) (k := (h + 81).toNat) (by omega)
    refine ⟨(j : Int) - 81, by omega, by omega, p, by omega, .inr ⟨rfl, rfl⟩, ?_⟩
    unfold val bor
    rw [if_neg (show ¬ pr (some p) = -1 by show ¬ (p : Int) = -1; omega), show pr (some p) = (p : Int) from rfl, h3, show ((j : Int) - 81 + 81).toNat = j by omega, show ((j : Int) - (((h + 81).toNat : Nat) : Int)) = (j : Int) - 81 - h by omega]
theorem val_spo_low {o : Option Nat} {T : List Int} (hT : T.length = 163) {h g : Int} (hh : h ≤ 81) (hg : -81 ≤ g) (le : g ≤ h) (ho : h = g ∨ ∃ p, o = some p) : ∃ p : Int, 0 ≤ p ∧ (h = g ∨ p = pr o) ∧ val (spo (pr o) T) h ≤ val T g + p * (h - g) := by
  cases o with
  | none =>
    rcases ho with rfl | ⟨_, e⟩
    · exact ⟨0, by omega, .inl rfl, by simp [spo, pr]⟩
    · cases e
  | some p =>
    refine ⟨p, by omega, .inr rfl, ?_⟩
    have q := ws_low (p := (p : Int)) (by omega) (xs := T) (k := (h + 81).toNat) (j := (g + 81).toNat) (by omega) (by omega)
    unfold val spo
    rw [if_neg (show ¬ pr (some p) = -1 by show ¬ (p : Int) = -1; omega)]
    rw [show (((h + 81).toNat : Nat) : Int) - (((g + 81).toNat : Nat) : Int) = h - g by omega] at q
    exact q
theorem val_spo_at {o : Option Nat} {T : List Int} (hT : T.length = 163) {h : Int} (hh : -81 ≤ h ∧ h ≤ 81) : ∃ g, g ≤ h ∧ -81 ≤ g ∧ ∃ p : Int, 0 ≤ p ∧ (h = g ∨ (p = pr o ∧ o.isSome = true)) ∧ val (spo (pr o) T) h = val T g + p * (h - g) := by
  cases o with
  | none => exact ⟨h, Int.le_refl _, hh.1, 0, by omega, .inl rfl, by simp [spo, pr]⟩
  | some p =>
    obtain ⟨j, h1, h3⟩ := ws_at (p := (p : Int)) (xs := T) (k := (h + 81).toNat) (by omega)
    refine ⟨(j : Int) - 81, by omega, by omega, p, by omega, .inr ⟨rfl, rfl⟩, ?_⟩
    unfold val spo
    rw [if_neg (show ¬ pr (some p) = -1 by show ¬ (p : Int) = -1; omega), show pr (some p) = (p : Int) from rfl, h3, show ((j : Int) - 81 + 81).toNat = j by omega, show ((((h + 81).toNat : Nat) : Int) - (j : Int)) = h - ((j : Int) - 81) by omega]
theorem val_moved {e : Int} {T : List Int} (hT : T.length = 163) {f : Int} (h : -81 ≤ f ∧ f ≤ 81) : val (moved e T) f = if -81 ≤ f + e ∧ f + e ≤ 81 then val T (f + e) else NEVER := by
  unfold val moved
  rw [List.getD_eq_getElem?_getD, List.getElem?_map, List.getElem?_range (by omega)]
  simp only [Option.map_some, Option.getD_some, hT]
  by_cases hc : -81 ≤ f + e ∧ f + e ≤ 81
  · rw [if_pos hc, if_pos (by omega)]
    congr 1
    omega
  · rw [if_neg hc, if_neg (by omega)]
end Haul
end
section
namespace Haul
open Kv364
def Wide : List Spot → Int → List Int → Prop
  | s :: l, f, g :: r => (-81 ≤ f + s.extra ∧ f + s.extra ≤ 81) ∧ (-81 ≤ g ∧ g ≤ 81) ∧ Wide l g r
  | _, _, _ => True
abbrev stage (t : Nat) (s : Spot) (T : List Int) : List Int := spo (pr s.spoil) (bor (pr s.borrow) (hauled t T))
theorem price_of_pos {s : Spot} {x p : Int} (hx : 0 < x) (h : s.price x = some p) : ∃ q, s.borrow = some q ∧ p = (q : Int) * x := by
  simp only [Spot.price] at h
  rw [if_neg (by omega), if_pos hx] at h
  cases hb : s.borrow with
  | none => rw [hb] at h; cases h
  | some q => rw [hb] at h; exact ⟨q, rfl, (Option.some.inj h).symm⟩
theorem price_of_neg {s : Spot} {x p : Int} (hx : x < 0) (h : s.price x = some p) : ∃ q, s.spoil = some q ∧ p = (q : Int) * (-x) := by
  simp only [Spot.price] at h
  rw [if_neg (by omega), if_neg (by omega)] at h
  cases hb : s.spoil with
  | none => rw [hb] at h; cases h
  | some q => rw [hb] at h; exact ⟨q, rfl, (Option.some.inj h).symm⟩
theorem price_pos_of {s : Spot} {x : Int} {q : Nat} (hx : 0 < x) (h : s.borrow = some q) : s.price x = some ((q : Int) * x) := by
  simp only [Spot.price]
  rw [if_neg (by omega), if_pos hx, h]
  rfl
theorem price_neg_of {s : Spot} {x : Int} {q : Nat} (hx : x < 0) (h : s.spoil = some q) : s.price x = some ((q : Int) * (-x)) := by
  simp only [Spot.price]
  rw [if_neg (by omega), if_neg (by omega), h]
  rfl
theorem hauled_len (t : Int) (T : List Int) : (hauled t T).length = T.length := by simp [hauled]
theorem st_low {t : Nat} {s : Spot} {T : List Int} (hT : T.length = 163) {h g p : Int} (hh : -81 ≤ h ∧ h ≤ 81) (hg : -81 ≤ g ∧ g ≤ 81) (hp : s.price (g - h) = some p) : val (stage t s T) h ≤ val T g + (t : Int) * (g.natAbs : Int) + p := by
  have eh := val_hauled (t := t) hT hg
  have l1 : (hauled t T).length = 163 := by rw [hauled_len]; exact hT
  have l2 : (bor (pr s.borrow) (hauled t T)).length = 163 := by rw [bor_len]; exact l1
  have hp0 := price_nonneg hp
  by_cases h1 : h < g
  · obtain ⟨q, hq, e⟩ := price_of_pos (by omega) hp
    obtain ⟨p1, _, c1, q1⟩ := val_bor_low (o := s.borrow) l1 hh.1 hg.2 (by omega) (.inr ⟨q, hq⟩)
    obtain ⟨p2, _, _, q2⟩ := val_spo_low (o := s.spoil) l2 hh.2 hh.1 (Int.le_refl h) (.inl rfl)
    rcases c1 with c1 | c1
    · omega
    · rw [hq] at c1
      have c1 : p1 = (q : Int) := c1
      rw [c1] at q1
      have z : p2 * (h - h) = 0 := by rw [Int.sub_self, Int.mul_zero]
      unfold stage
      omega
  · by_cases h2 : g < h
    · obtain ⟨q, hq, e⟩ := price_of_neg (by omega) hp
      obtain ⟨p1, _, _, q1⟩ := val_bor_low (o := s.borrow) l1 hg.1 hg.2 (Int.le_refl g) (.inl rfl)
      obtain ⟨p2, _, c2, q2⟩ := val_spo_low (o := s.spoil) l2 hh.2 hg.1 (by omega) (.inr ⟨q, hq⟩)
      rcases c2 with c2 | c2
      · omega
      · rw [hq] at c2
        have c2 : p2 = (q : Int) := c2
        rw [c2] at q2
        have z : p1 * (g - g) = 0 := by rw [Int.sub_self, Int.mul_zero]
        rw [show -(g - h) = h - g by omega] at e
        unfold stage
        omega
    · have e : h = g := by omega
      subst e
      obtain ⟨p1, _, _, q1⟩ := val_bor_low (o := s.borrow) l1 hg.1 hg.2 (Int.le_refl h) (.inl rfl)
      obtain ⟨p2, _, _, q2⟩ := val_spo_low (o := s.spoil) l2 hh.2 hg.1 (Int.le_refl h) (.inl rfl)
      have z1 : p1 * (h - h) = 0 := by rw [Int.sub_self, Int.mul_zero]
      have z2 : p2 * (h - h) = 0 := by rw [Int.sub_self, Int.mul_zero]
      unfold stage
      omega
theorem st_at {t : Nat} {s : Spot} {T : List Int} (hT : T.length = 163) {h : Int} (hh : -81 ≤ h ∧ h ≤ 81) : ∃ g, (-81 ≤ g ∧ g ≤ 81) ∧ ∃ p, s.price (g - h) = some p ∧ val T g + (t : Int) * (g.natAbs : Int) + p ≤ val (stage t s T) h := by
  have l1 : (hauled t T).length = 163 := by rw [hauled_len]; exact hT
  have l2 : (bor (pr s.borrow) (hauled t T)).length = 163 := by rw [bor_len]; exact l1
  obtain ⟨h1, a1, a2, p2, a3, a4, a5⟩ := val_spo_at (o := s.spoil) l2 hh
  obtain ⟨g, b1, b2, p1, b3, b4, b5⟩ := val_bor_at (o := s.borrow) l1 (h := h1) ⟨a2, by omega⟩
  have hg : -81 ≤ g ∧ g ≤ 81 := ⟨by omega, b2⟩
  have eh := val_hauled (t := t) hT hg
  refine ⟨g, hg, ?_⟩
  have n1 : 0 ≤ p1 * (g - h1) := Int.mul_nonneg b3 (by omega)
  have n2 : 0 ≤ p2 * (h - h1) := Int.mul_nonneg a3 (by omega)
  by_cases c1 : h < g
  · rcases b4 with b4 | ⟨b4, b6⟩
    · omega
    · obtain ⟨q, hq⟩ := Option.isSome_iff_exists.mp b6
      rw [hq] at b4
      have b4 : p1 = (q : Int) := b4
      refine ⟨_, price_pos_of (by omega) hq, ?_⟩
      have : (q : Int) * (g - h) ≤ p1 * (g - h1) := by rw [b4]; exact Int.mul_le_mul_of_nonneg_left (by omega) (by omega)
      unfold stage
      omega
  · by_cases c2 : g < h
    · rcases a4 with a4 | ⟨a4, a6⟩
      · omega
      · obtain ⟨q, hq⟩ := Option.isSome_iff_exists.mp a6
        rw [hq] at a4
        have a4 : p2 = (q : Int) := a4
        refine ⟨_, price_neg_of (by omega) hq, ?_⟩
        have : (q : Int) * (-(g - h)) ≤ p2 * (h - h1) := by rw [a4]; exact Int.mul_le_mul_of_nonneg_left (by omega) (by omega)
        unfold stage
        omega
    · have e : h = g := by omega
      subst e
      refine ⟨0, by rw [Int.sub_self]; exact price_zero, ?_⟩
      unfold stage
      omega
theorem stage_len {t : Nat} {s : Spot} {T : List Int} (hT : T.length = 163) : (stage t s T).length = 163 := by
  unfold stage
  rw [spo_len, bor_len, hauled_len]
  exact hT
theorem tab_low {a : Abs} : ∀ {l : List Spot} {f : Int} {gs : List Int} {c : Int}, a.costs l f gs = some c → Wide l f gs → (-81 ≤ f ∧ f ≤ 81) → val (tab a.step l) f ≤ c
  | [], f, [], c, h, _, hf => by
    obtain ⟨rfl, rfl⟩ := costs_nil.mp h
    show val base 0 ≤ 0
    rw [val_base (by omega), if_pos rfl]
    exact Int.le_refl _
  | [], _, g :: r, _, h, _, _ => by rw [costs_cons_nil] at h; cases h
  | s :: l, _, [], _, h, _, _ => by rw [costs_nil_cons] at h; cases h
  | s :: l, f, g :: r, c, h, hw, hf => by
    obtain ⟨p, c', hp, hc, rfl⟩ := costs_cons.mp h
    obtain ⟨w1, w2, w3⟩ := hw
    have ih := tab_low hc w3 w2
    show val (moved s.extra (stage a.step s (tab a.step l))) f ≤ _
    rw [val_moved (stage_len (tab_len _ _)) hf, if_pos w1]
    have q := st_low (t := a.step) (s := s) (tab_len a.step l) w1 w2 (p := p) (by rw [← hp]; congr 1; omega)
    omega
theorem tab_at {a : Abs} : ∀ {l : List Spot} {f : Int}, (-81 ≤ f ∧ f ≤ 81) → val (tab a.step l) f < NEVER → ∃ gs, a.costs l f gs = some (val (tab a.step l) f) ∧ Wide l f gs
  | [], f, hf, hn => by
    have e : val (tab a.step []) f = val base f := rfl
    rw [e] at hn ⊢
    rw [val_base hf] at hn ⊢
    by_cases h : f = 0
    · rw [if_pos h]; exact ⟨[], costs_nil.mpr ⟨h, rfl⟩, trivial⟩
    · rw [if_neg h] at hn; omega
  | s :: l, f, hf, hn => by
    have e : val (tab a.step (s :: l)) f = val (moved s.extra (stage a.step s (tab a.step l))) f := rfl
    rw [e] at hn ⊢
    rw [val_moved (stage_len (tab_len _ _)) hf] at hn ⊢
    by_cases w1 : -81 ≤ f + s.extra ∧ f + s.extra ≤ 81
    · rw [if_pos w1] at hn ⊢
      obtain ⟨g, w2, p, hp, le⟩ := st_at (t := a.step) (s := s) (tab_len a.step l) w1
      have n1 := haul_nonneg a.step g
      have n2 := price_nonneg hp
      obtain ⟨r, hr, w3⟩ := tab_at (a := a) (l := l) w2 (by omega)
      have hp' : s.price (g - f - s.extra) = some p := by rw [← hp]; congr 1; omega
      have hc : a.costs (s :: l) f (g :: r) = some _ := costs_cons.mpr ⟨p, _, hp', hr, rfl⟩
      have lo := st_low (t := a.step) (s := s) (tab_len a.step l) w1 w2 hp
      refine ⟨g :: r, ?_, w1, w2, w3⟩
      rw [hc]
      congr 1
      omega
    · rw [if_neg w1] at hn
      omega
def onw (t : Nat) (s : Spot) (there onward : Int) : Int :=
  (t : Int) * (onward.natAbs : Int) + (if there < onward then (if pr s.borrow = -1 then NEVER else pr s.borrow * (onward - there)) else if onward < there then (if pr s.spoil = -1 then NEVER else pr s.spoil * (there - onward)) else 0)
def Keeps (t : Nat) (s : Spot) (l : List Spot) (f g : Int) : Prop := onw t s (f + s.extra) g + val (tab t l) g = val (tab t (s :: l)) f
theorem onw_price {t : Nat} {s : Spot} {f g p : Int} (h : s.price (g - f - s.extra) = some p) : onw t s (f + s.extra) g = (t : Int) * (g.natAbs : Int) + p := by
  unfold onw
  by_cases h1 : f + s.extra < g
  · obtain ⟨q, hq, e⟩ := price_of_pos (by omega) h
    rw [if_pos h1, hq, if_neg (show ¬ pr (some q) = -1 by show ¬ (q : Int) = -1; omega), show pr (some q) = (q : Int) from rfl, e]
    congr 2
    omega
  · by_cases h2 : g < f + s.extra
    · obtain ⟨q, hq, e⟩ := price_of_neg (by omega) h
      rw [if_neg h1, if_pos h2, hq, if_neg (show ¬ pr (some q) = -1 by show ¬ (q : Int) = -1; omega), show pr (some q) = (q : Int) from rfl, e]
      congr 2
      omega
    · rw [if_neg h1, if_neg h2]
      rw [show g - f - s.extra = 0 by omega, price_zero] at h
      rw [← Option.some.inj h]
theorem price_onw {t : Nat} {s : Spot} {f g : Int} (h : onw t s (f + s.extra) g < NEVER) : ∃ p, s.price (g - f - s.extra) = some p := by
  have n := haul_nonneg t g
  unfold onw at h
  by_cases h1 : f + s.extra < g
  · rw [if_pos h1] at h
    cases hb : s.borrow with
    | none => rw [hb] at h; rw [if_pos (show pr none = -1 from rfl)] at h; omega
    | some q => exact ⟨_, price_pos_of (by omega) hb⟩
  · by_cases h2 : g < f + s.extra
    · rw [if_neg h1, if_pos h2] at h
      cases hb : s.spoil with
      | none => rw [hb] at h; rw [if_pos (show pr none = -1 from rfl)] at h; omega
      | some q => exact ⟨_, price_neg_of (by omega) hb⟩
    · exact ⟨0, by rw [show g - f - s.extra = 0 by omega]; exact price_zero⟩
theorem onw_nonneg (t : Nat) (s : Spot) (h g : Int) : 0 ≤ onw t s h g := by
  have n := haul_nonneg t g
  have p0 : ∀ {o : Option Nat} {x : Int}, 0 < x → 0 ≤ (if pr o = -1 then NEVER else pr o * x) := fun {o x} hx => by
    split
    · decide
    · cases o with
      | none => contradiction
      | some q => exact Int.mul_nonneg (by show (0 : Int) ≤ (q : Int); omega) (by omega)
  unfold onw
  split
  · have := p0 (o := s.borrow) (x := g - h) (by omega); omega
  · split
    · have := p0 (o := s.spoil) (x := h - g) (by omega); omega
    · omega
theorem tab_nonneg {a : Abs} {l : List Spot} {f : Int} (hf : -81 ≤ f ∧ f ≤ 81) : 0 ≤ val (tab a.step l) f := by
  by_cases h : val (tab a.step l) f < NEVER
  · obtain ⟨gs, hc, _⟩ := tab_at hf h
    exact costs_nonneg hc
  · have : (0 : Int) < NEVER := by decide
    omega
theorem first_keeps {a : Abs} {s : Spot} {l : List Spot} {f c g : Int} {r : List Int} (B : Best a (fun _ => True) (s :: l) f c (g :: r)) (hw : Wide (s :: l) f (g :: r)) (hf : -81 ≤ f ∧ f ≤ 81) (hc : c < NEVER) :
    Keeps a.step s l f g ∧ (∀ g', -81 ≤ g' → g' < g → ¬ Keeps a.step s l f g') ∧ ∃ c', Best a (fun _ => True) l g c' r ∧ c' < NEVER := by
  obtain ⟨p, c', hp, hc', ec⟩ := costs_cons.mp B.way
  have low := tab_low B.way hw hf
  have ev : val (tab a.step (s :: l)) f = c := by
    obtain ⟨gs, h1, _⟩ := tab_at hf (show val (tab a.step (s :: l)) f < NEVER by omega)
    have := B.least _ _ h1 trivial
    omega
  have n1 := haul_nonneg a.step g
  have n2 := price_nonneg hp
  have B' : Best a (fun _ => True) l g c' r := by
    refine ⟨hc', trivial, fun gs' d hd _ => ?_⟩
    have := B.least _ _ (costs_cons.mpr ⟨p, d, hp, hd, rfl⟩) trivial
    rcases this with q | ⟨q, q2⟩
    · left; omega
    · right
      refine ⟨by omega, ?_⟩
      rcases q2 with q2 | q2
      · left; exact (List.cons.inj q2).2
      · rcases q2 with q2 | ⟨_, q2⟩
        · omega
        · exact .inr q2
  have hc'n : c' < NEVER := by omega
  have ev' : val (tab a.step l) g = c' := by
    have low' := tab_low hc' hw.2.2 hw.2.1
    obtain ⟨gs, h1, _⟩ := tab_at hw.2.1 (show val (tab a.step l) g < NEVER by omega)
    have := B'.least _ _ h1 trivial
    omega
  refine ⟨?_, fun g' hg' lt K => ?_, c', B', hc'n⟩
  · unfold Keeps
    rw [onw_price hp, ev, ev']
    omega
  · unfold Keeps at K
    rw [ev] at K
    have hgr : -81 ≤ g' ∧ g' ≤ 81 := ⟨hg', by have := hw.2.1; omega⟩
    have m1 := onw_nonneg a.step s (f + s.extra) g'
    have m2 := tab_nonneg (a := a) (l := l) hgr
    obtain ⟨p', hp'⟩ := price_onw (t := a.step) (s := s) (f := f) (g := g') (by omega)
    obtain ⟨r', h1, _⟩ := tab_at (a := a) (l := l) hgr (by omega)
    rw [onw_price hp'] at K
    have := B.least _ _ (costs_cons.mpr ⟨p', _, hp', h1, rfl⟩) trivial
    rcases this with q | ⟨_, q2⟩
    · omega
    · rcases q2 with q2 | q2
      · have := (List.cons.inj q2).1; omega
      · rcases q2 with q2 | ⟨q2, _⟩ <;> omega
end Haul
end
section
namespace Haul
open Kv364
structure Ok (a : Abs) : Prop where
  need : a.need.length = a.n
  borrow : a.borrow.length = a.n
  spoil : a.spoil.length = a.n
  n2 : 2 ≤ a.n
  n8 : a.n ≤ 8
  t1 : 1 ≤ a.step
  t10 : a.step ≤ 10
  h9 : ∀ x ∈ a.have_, x ≤ 9
  d9 : ∀ x ∈ a.need, x ≤ 9
  b50 : ∀ p, some p ∈ a.borrow → p ≤ 50
  s50 : ∀ p, some p ∈ a.spoil → p ≤ 50
theorem Ok.fine {a : Abs} (h : Ok a) : Fine a := ⟨h.need, h.borrow, h.spoil, h.t1⟩
structure SpotOk (s : Spot) : Prop where
  e1 : -9 ≤ s.extra
  e2 : s.extra ≤ 9
  b : ∀ p, s.borrow = some p → p ≤ 50
  s : ∀ p, s.spoil = some p → p ≤ 50
theorem getD_le {l : List Nat} {m : Nat} (h : ∀ x ∈ l, x ≤ m) (i : Nat) : l.getD i 0 ≤ m := by
  rw [List.getD_eq_getElem?_getD]
  cases e : l[i]? with
  | none => simp
  | some x => exact h x (List.mem_of_getElem? e)
theorem getD_some {l : List (Option Nat)} {m i p : Nat} (h : ∀ p, some p ∈ l → p ≤ m) (e : l.getD i none = some p) : p ≤ m := by
  rw [List.getD_eq_getElem?_getD] at e
  cases e1 : l[i]? with
  | none => rw [e1] at e; cases e
  | some x =>
    rw [e1] at e
    have e2 : x = some p := e
    rw [e2] at e1
    exact h p (List.mem_of_getElem? e1)
theorem Ok.spot {a : Abs} (h : Ok a) (i : Nat) : SpotOk (a.spot i) := by
  have h1 := getD_le h.h9 i
  have h2 := getD_le h.d9 i
  exact ⟨by simp only [Abs.spot]; omega, by simp only [Abs.spot]; omega, fun p e => getD_some h.b50 e, fun p e => getD_some h.s50 e⟩
theorem Ok.spots {a : Abs} (h : Ok a) : ∀ s ∈ a.spots, SpotOk s := by
  intro s hs
  obtain ⟨i, _, rfl⟩ := List.mem_map.mp hs
  exact h.spot i
theorem sum_le {m : Nat} : ∀ {l : List Nat}, (∀ x ∈ l, x ≤ m) → l.sum ≤ m * l.length
  | [], _ => by simp
  | x :: l, h => by
    have ih := sum_le (l := l) fun y hy => h y (List.mem_cons_of_mem _ hy)
    have := h x List.mem_cons_self
    rw [List.sum_cons, List.length_cons, Nat.mul_add, Nat.mul_one]
    omega
theorem Ok.cap {a : Abs} (h : Ok a) : a.cap ≤ 72 := by
  have h1 := sum_le h.h9
  have h2 := sum_le h.d9
  have e1 : a.have_.length = a.n := rfl
  have := h.n8
  rw [h.need] at h2
  rw [e1] at h1
  unfold Abs.cap
  have : 9 * a.n ≤ 72 := by omega
  omega
theorem wide_of {l : List Spot} (hl : ∀ s ∈ l, SpotOk s) : ∀ {f : Int} {gs : List Int}, (-72 ≤ f ∧ f ≤ 72) → Within 72 gs → Wide l f gs := by
  induction l with
  | nil => intro f gs _ _; cases gs <;> trivial
  | cons s l ih =>
    intro f gs hf hw
    cases gs with
    | nil => trivial
    | cons g r =>
      obtain ⟨w1, w2⟩ := within_cons.mp hw
      have hs := hl s List.mem_cons_self
      have := hs.e1
      have := hs.e2
      exact ⟨by omega, by omega, ih (fun s' h' => hl s' (List.mem_cons_of_mem _ h')) w1 w2⟩
theorem price_le {s : Spot} (h : SpotOk s) {x p : Int} (hx : -153 ≤ x ∧ x ≤ 153) (hp : s.price x = some p) : p ≤ 7650 := by
  by_cases h0 : x = 0
  · rw [h0, price_zero] at hp
    have := Option.some.inj hp
    omega
  · by_cases h1 : 0 < x
    · obtain ⟨q, hq, e⟩ := price_of_pos h1 hp
      have := h.b q hq
      have : (q : Int) * x ≤ 50 * 153 := Int.mul_le_mul (by omega) (by omega) (by omega) (by omega)
      omega
    · obtain ⟨q, hq, e⟩ := price_of_neg (by omega) hp
      have := h.s q hq
      have : (q : Int) * (-x) ≤ 50 * 153 := Int.mul_le_mul (by omega) (by omega) (by omega) (by omega)
      omega
theorem cost_le {a : Abs} (ht : a.step ≤ 10) : ∀ {l : List Spot} {f : Int} {gs : List Int} {c : Int}, (∀ s ∈ l, SpotOk s) → (-72 ≤ f ∧ f ≤ 72) → Within 72 gs → a.costs l f gs = some c → c ≤ 8370 * (l.length : Int)
  | [], f, [], c, _, _, _, h => by obtain ⟨_, rfl⟩ := costs_nil.mp h; simp
  | [], _, g :: r, _, _, _, _, h => by rw [costs_cons_nil] at h; cases h
  | s :: l, _, [], _, _, _, _, h => by rw [costs_nil_cons] at h; cases h
  | s :: l, f, g :: r, c, hl, hf, hw, h => by
    obtain ⟨p, c', hp, hc, rfl⟩ := costs_cons.mp h
    obtain ⟨w1, w2⟩ := within_cons.mp hw
    have hs := hl s List.mem_cons_self
    have := hs.e1
    have := hs.e2
    have q1 := price_le hs (by omega) hp
    have q2 := cost_le ht (fun s' h' => hl s' (List.mem_cons_of_mem _ h')) w1 w2 hc
    have q3 : (a.step : Int) * (g.natAbs : Int) ≤ 10 * 72 := Int.mul_le_mul (by omega) (by omega) (by omega) (by omega)
    rw [List.length_cons]
    omega
theorem Ok.best {a : Abs} (h : Ok a) {b : Plan} (e : a.best = some b) : Best a (fun _ => True) a.spots 0 b.cost b.flows ∧ Wide a.spots 0 b.flows ∧ b.cost < NEVER ∧ b.flows.length = a.n := by
  have t := best_tells (a := a) h.t1 h.need
  rw [e] at t
  have k := tell_tells a a.spots 0
  rw [← best_eq, e] at k
  have hc := h.cap
  have w : Within 72 b.flows := fun g hg => by
    have := k.keeps g hg
    omega
  have cl := cost_le (a := a) h.t10 h.spots (f := 0) (by omega) w t.way
  have hn := h.n8
  refine ⟨t, wide_of h.spots (by omega) w, ?_, by rw [costs_len t.way, spots_len]⟩
  rw [spots_len] at cl
  unfold NEVER
  omega
theorem Ok.least {a : Abs} (h : Ok a) {b : Plan} (e : a.best = some b) : val (tab a.step a.spots) 0 = b.cost := by
  obtain ⟨B, w, c, _⟩ := h.best e
  have low := tab_low B.way w (by omega)
  obtain ⟨gs, h1, _⟩ := tab_at (a := a) (l := a.spots) (f := 0) (by omega) (show val (tab a.step a.spots) 0 < NEVER by omega)
  have := B.least _ _ h1 trivial
  omega
end Haul
end
section
namespace Haul
open Kv364
def clo : Nat → List Int → Nat → List Int → List (Nat × Nat × Int)
  | i, x :: l, j, y :: r => (if 0 < mn x y ∧ i ≠ j then [(i, j, mn x y)] else []) ++ (if x - mn x y = 0 then clo (i + 1) l j ((y - mn x y) :: r) else clo i ((x - mn x y) :: l) (j + 1) r)
  | _, _, _, _ => []
termination_by _ l _ r => l.length + r.length
theorem clo_cons (i : Nat) (x : Int) (l : List Int) (j : Nat) (y : Int) (r : List Int) : clo i (x :: l) j (y :: r) = (if 0 < mn x y ∧ i ≠ j then [(i, j, mn x y)] else []) ++ (if x - mn x y = 0 then clo (i + 1) l j ((y - mn x y) :: r) else clo i ((x - mn x y) :: l) (j + 1) r) := by
  rw [clo]
theorem clo_nil1 (i : Nat) (j : Nat) (r : List Int) : clo i [] j r = [] := by rw [clo]; intros; contradiction
theorem clo_nil2 (i : Nat) (l : List Int) (j : Nat) : clo i l j [] = [] := by rw [clo]; intros; contradiction
def idx : Nat → List Nat → List (Nat × Nat)
  | _, [] => []
  | i, x :: l => (i, x) :: idx (i + 1) l
def zlist (l : List Nat) : List Int := l.map fun (x : Nat) => (x : Int)
def tri (l : List (Nat × Nat × Nat)) : List (Nat × Nat × Int) := (l.filter fun x => x.1 != x.2.1).map fun x => (x.1, x.2.1, (x.2.2 : Int))
theorem mn_nat (x y : Nat) : mn (x : Int) (y : Int) = ((min x y : Nat) : Int) := by unfold mn; split <;> omega
theorem loads_clo : ∀ (m : Nat) (k : Nat) (i j : Nat) (l r : List Nat), l.length + r.length ≤ m → 2 * (l.length + r.length) + 1 ≤ k → tri (loads k (idx i l) (idx j r)) = clo i (zlist l) j (zlist r) := by
  intro m
  induction m with
  | zero =>
    intro k i j l r h _
    have e1 : l = [] := List.length_eq_zero_iff.mp (by omega)
    subst e1
    show tri (loads k [] (idx j r)) = clo i [] j (zlist r)
    rw [clo_nil1]
    cases k <;> simp [loads, tri]
  | succ m ih =>
    intro k i j l r h hk
    cases l with
    | nil =>
      show tri (loads k [] (idx j r)) = clo i [] j (zlist r)
      rw [clo_nil1]
      cases k <;> simp [loads, tri]
    | cons x l =>
      cases r with
      | nil =>
        show tri (loads k (idx i (x :: l)) []) = clo i (zlist (x :: l)) j []
        rw [clo_nil2]
        cases k <;> simp [loads, idx, tri]
      | cons y r =>
        simp only [List.length_cons] at h hk
        obtain ⟨k, rfl⟩ : ∃ k', k = k' + 1 := ⟨k - 1, by omega⟩
        show tri (loads (k + 1) ((i, x) :: idx (i + 1) l) ((j, y) :: idx (j + 1) r)) = clo i ((x : Int) :: zlist l) j ((y : Int) :: zlist r)
        rw [clo_cons, mn_nat]
        simp only [loads]
        by_cases hx : x = 0
        · subst hx
          have e0 : min 0 y = 0 := by omega
          rw [if_pos rfl, e0, if_neg (by omega), if_pos (by omega), List.nil_append]
          have := ih k (i + 1) j l (y :: r) (by simp only [List.length_cons]; omega) (by simp only [List.length_cons]; omega)
          rw [show (y : Int) - ((0 : Nat) : Int) = (y : Int) by omega]
          exact this
        · rw [if_neg hx]
          by_cases hy : y = 0
          · subst hy
            have e0 : min x 0 = 0 := by omega
            rw [if_pos rfl, e0, if_neg (by omega), if_neg (by omega), List.nil_append]
            have := ih k i (j + 1) (x :: l) r (by simp only [List.length_cons]; omega) (by simp only [List.length_cons]; omega)
            rw [show (x : Int) - ((0 : Nat) : Int) = (x : Int) by omega]
            exact this
          · rw [if_neg hy]
            have head : ∀ rest : List (Nat × Nat × Nat), tri ((i, j, min x y) :: rest) = (if 0 < ((min x y : Nat) : Int) ∧ i ≠ j then [(i, j, ((min x y : Nat) : Int))] else []) ++ tri rest := by
              intro rest
              unfold tri
              rw [List.filter_cons]
              by_cases hij : i = j
              · rw [if_neg (by simp [hij]), if_neg (by simp [hij])]; rfl
              · rw [if_pos (by simp [hij]), if_pos ⟨by omega, hij⟩]; rfl
            rw [head]
            congr 1
            obtain ⟨k, rfl⟩ : ∃ k', k = k' + 1 := ⟨k - 1, by omega⟩
            by_cases hxy : x ≤ y
            · have em : min x y = x := by omega
              rw [em, if_pos (by omega)]
              simp only [loads]
              rw [if_pos (by omega)]
              have := ih k (i + 1) j l ((y - x) :: r) (by simp only [List.length_cons]; omega) (by simp only [List.length_cons]; omega)
              rw [show (y : Int) - (x : Int) = ((y - x : Nat) : Int) by omega]
              exact this
            · have em : min x y = y := by omega
              rw [em, if_neg (by omega)]
              simp only [loads]
              rw [if_neg (by omega), if_pos (by omega)]
              have := ih k i (j + 1) ((x - y) :: l) r (by simp only [List.length_cons]; omega) (by simp only [List.length_cons]; omega)
              rw [show (x : Int) - (y : Int) = ((x - y : Nat) : Int) by omega]
              exact this
theorem idx_range (F : Nat → Nat) : ∀ (n i : Nat), (List.range' i n).map (fun k => (k, F k)) = idx i ((List.range' i n).map F)
  | 0, _ => rfl
  | n + 1, i => by rw [List.range'_succ, List.map_cons, List.map_cons, idx_range F n (i + 1)]; rfl
def lefts (a : Abs) (p : List Int) : List Nat := (List.range a.n).map fun i => a.have_.getD i 0 + (p.getD i 0).toNat
def lacks (a : Abs) (p : List Int) : List Nat := (List.range a.n).map fun i => a.need.getD i 0 + (-(p.getD i 0)).toNat
theorem from_eq (a : Abs) (p : List Int) : a.from_ p = idx 0 (lefts a p) := by
  unfold Abs.from_ lefts
  rw [List.range_eq_range']
  exact idx_range _ _ _
theorem to_eq (a : Abs) (p : List Int) : a.to_ p = idx 0 (lacks a p) := by
  unfold Abs.to_ lacks
  rw [List.range_eq_range']
  exact idx_range _ _ _
theorem loadsOf_eq (a : Abs) (b : Plan) : (a.loadsOf b).map (fun x => (x.1, x.2.1, (x.2.2 : Int))) = clo 0 (zlist (lefts a (pits a.spots 0 b.flows))) 0 (zlist (lacks a (pits a.spots 0 b.flows))) := by
  unfold Abs.loadsOf
  rw [from_eq, to_eq]
  refine loads_clo _ _ _ _ _ _ (Nat.le_refl _) ?_
  simp only [lefts, lacks, List.length_map, List.length_range]
  omega
end Haul
end
section
namespace Haul
theorem set_append_left {α : Type} (l m : List α) (k : Nat) (x : α) (h : k < l.length) : (l ++ m).set k x = l.set k x ++ m := List.set_append_left k x h
theorem take_succ_getD {xs : List Int} {k : Nat} (h : k < xs.length) : xs.take (k + 1) = xs.take k ++ [xs.getD k 0] := by
  rw [List.take_add_one, List.getD_eq_getElem?_getD, List.getElem?_eq_getElem h]
  rfl
theorem drop_getD {xs : List Int} {k : Nat} (h : k < xs.length) : xs.drop k = xs.getD k 0 :: xs.drop (k + 1) := by
  rw [List.drop_eq_getElem_cons h, List.getD_eq_getElem?_getD, List.getElem?_eq_getElem h]
  rfl
theorem getD_app_left {l m : List Int} {k : Nat} (h : k < l.length) : (l ++ m).getD k 0 = l.getD k 0 := by
  rw [List.getD_eq_getElem?_getD, List.getElem?_append_left h, List.getD_eq_getElem?_getD]
theorem getD_app_right {l m : List Int} {k : Nat} (h : l.length ≤ k) : (l ++ m).getD k 0 = m.getD (k - l.length) 0 := by
  rw [List.getD_eq_getElem?_getD, List.getElem?_append_right h, List.getD_eq_getElem?_getD]
def borAt (p : Int) (xs : List Int) (k : Nat) : List Int := xs.take k ++ wb p (xs.drop k)
theorem borAt_len (p : Int) (xs : List Int) (k : Nat) : (borAt p xs k).length = xs.length := by
  unfold borAt
  rw [List.length_append, wb_len, List.length_take, List.length_drop]
  omega
theorem borAt_start (p : Int) {xs : List Int} {n : Nat} (h : xs.length = n + 1) : borAt p xs n = xs := by
  unfold borAt
  rw [drop_getD (by omega), List.drop_eq_nil_of_le (by omega), wb_cons, if_pos rfl]
  show xs.take n ++ (xs.getD n 0 :: []) = xs
  rw [← take_succ_getD (by omega), List.take_of_length_le (by omega)]
theorem borAt_end (p : Int) (xs : List Int) : borAt p xs 0 = wb p xs := by simp [borAt]
theorem borAt_step (p : Int) {xs : List Int} {k : Nat} (h : k + 1 < xs.length) : (borAt p xs (k + 1)).set k (mn ((borAt p xs (k + 1)).getD k 0) ((borAt p xs (k + 1)).getD (k + 1) 0 + p)) = borAt p xs k := by
  have l1 : (xs.take (k + 1)).length = k + 1 := by rw [List.length_take]; omega
  have e1 : (borAt p xs (k + 1)).getD k 0 = xs.getD k 0 := by
    unfold borAt
    rw [getD_app_left (by omega), take_succ_getD (by omega), getD_app_right (by rw [List.length_take]; omega), List.length_take, show k - min k xs.length = 0 by omega]
    rfl
  have e2 : (borAt p xs (k + 1)).getD (k + 1) 0 = (wb p (xs.drop (k + 1))).getD 0 0 := by
    unfold borAt
    rw [getD_app_right (by omega), l1, Nat.sub_self]
  rw [e1, e2]
  unfold borAt
  rw [set_append_left _ _ _ _ (by omega), take_succ_getD (by omega), List.set_append_right _ _ (by rw [List.length_take]; omega), List.length_take, show k - min k xs.length = 0 by omega, drop_getD (k := k) (by omega), wb_cons, if_neg (by intro e; have := congrArg List.length e; rw [List.length_drop] at this; simp at this; omega)]
  simp
def spoAt (p : Int) (xs : List Int) (k : Nat) : List Int := (ws p xs).take k ++ xs.drop k
theorem spoAt_len (p : Int) (xs : List Int) (k : Nat) : (spoAt p xs k).length = xs.length := by
  unfold spoAt
  rw [List.length_append, List.length_take, List.length_drop, ws_len]
  omega
theorem spoAt_start (p : Int) (xs : List Int) : spoAt p xs 1 = xs := by
  unfold spoAt
  cases xs with
  | nil => rfl
  | cons x r => rfl
theorem spoAt_end (p : Int) (xs : List Int) : spoAt p xs xs.length = ws p xs := by
  unfold spoAt
  rw [List.drop_length, List.append_nil, List.take_of_length_le (by rw [ws_len]; exact Nat.le_refl _)]
theorem wsGo_succ (p : Int) : ∀ (c : Int) (xs : List Int) (k : Nat), k + 1 < xs.length → (wsGo p c xs).getD (k + 1) 0 = mn (xs.getD (k + 1) 0) ((wsGo p c xs).getD k 0 + p)
  | c, [], k, h => by simp at h
  | c, [x], k, h => by simp at h
  | c, x :: y :: r, 0, _ => by simp [wsGo]
  | c, x :: y :: r, k + 1, h => by
    have ih := wsGo_succ p (mn x (c + p)) (y :: r) k (by simp at h ⊢; omega)
    simp only [wsGo, List.getD_cons_succ] at ih ⊢
    exact ih
theorem ws_succ (p : Int) {xs : List Int} {k : Nat} (h : k + 1 < xs.length) : (ws p xs).getD (k + 1) 0 = mn (xs.getD (k + 1) 0) ((ws p xs).getD k 0 + p) := by
  cases xs with
  | nil => simp at h
  | cons x r =>
    cases k with
    | zero =>
      cases r with
      | nil => simp at h
      | cons y r2 => simp [ws, wsGo]
    | succ k =>
      simp only [ws, List.getD_cons_succ]
      exact wsGo_succ p x r k (by simp at h; omega)
theorem spoAt_step (p : Int) {xs : List Int} {k : Nat} (h : k + 1 < xs.length) : (spoAt p xs (k + 1)).set (k + 1) (mn ((spoAt p xs (k + 1)).getD (k + 1) 0) ((spoAt p xs (k + 1)).getD k 0 + p)) = spoAt p xs (k + 2) := by
  have hl := ws_len p xs
  have l1 : ((ws p xs).take (k + 1)).length = k + 1 := by rw [List.length_take]; omega
  have e1 : (spoAt p xs (k + 1)).getD (k + 1) 0 = xs.getD (k + 1) 0 := by
    unfold spoAt
    rw [getD_app_right (by omega), l1, Nat.sub_self, drop_getD (by omega)]
    rfl
  have e2 : (spoAt p xs (k + 1)).getD k 0 = (ws p xs).getD k 0 := by
    unfold spoAt
    rw [getD_app_left (by omega), take_succ_getD (by omega), getD_app_right (by rw [List.length_take]; omega), List.length_take, show k - min k (ws p xs).length = 0 by omega]
    rfl
  rw [e1, e2, ← ws_succ p h]
  unfold spoAt
  rw [List.set_append_right _ _ (by omega), l1, Nat.sub_self, drop_getD (k := k + 1) (by omega), take_succ_getD (k := k + 1) (by omega)]
  simp
end Haul
end
section
namespace Haul
open Kv364
theorem mem_set {α : Type} {l : List α} {i : Nat} {x y : α} (h : y ∈ l.set i x) : y ∈ l ∨ y = x := List.mem_or_eq_of_mem_set h
theorem begun_ok {n t : Nat} (h : ¬ (n < 2 ∨ 8 < n ∨ t = 0 ∨ 10 < t)) : Ok (begun n t) := by
  have en : (begun n t).n = n := by simp [begun, Abs.n]
  refine ⟨by simp [begun, Abs.n], by simp [begun, Abs.n], by simp [begun, Abs.n], by omega, by omega, by show 1 ≤ t; omega, by show t ≤ 10; omega, fun x hx => ?_, fun x hx => ?_, fun p hp => ?_, fun p hp => ?_⟩
  · have := (List.mem_replicate.mp hx).2; omega
  · have := (List.mem_replicate.mp hx).2; omega
  · have := (List.mem_replicate.mp hp).2; cases this
  · have := (List.mem_replicate.mp hp).2; cases this
theorem Ok.setHave {a : Abs} (O : Ok a) {i x : Nat} (hx : x ≤ 9) : Ok { a with have_ := a.have_.set i x } := by
  have en : ({ a with have_ := a.have_.set i x } : Abs).n = a.n := by simp [Abs.n]
  refine ⟨by rw [en]; exact O.need, by rw [en]; exact O.borrow, by rw [en]; exact O.spoil, by rw [en]; exact O.n2, by rw [en]; exact O.n8, O.t1, O.t10, fun y hy => ?_, O.d9, O.b50, O.s50⟩
  rcases mem_set hy with h | h
  · exact O.h9 y h
  · omega
theorem Ok.setNeed {a : Abs} (O : Ok a) {i x : Nat} (hx : x ≤ 9) : Ok { a with need := a.need.set i x } := by
  refine ⟨by show (a.need.set i x).length = a.n; rw [List.length_set]; exact O.need, O.borrow, O.spoil, O.n2, O.n8, O.t1, O.t10, O.h9, fun y hy => ?_, O.b50, O.s50⟩
  rcases mem_set hy with h | h
  · exact O.d9 y h
  · omega
theorem Ok.setBorrow {a : Abs} (O : Ok a) {i : Nat} {o : Option Nat} (ho : ∀ p, o = some p → p ≤ 50) : Ok { a with borrow := a.borrow.set i o } := by
  refine ⟨O.need, by show (a.borrow.set i o).length = a.n; rw [List.length_set]; exact O.borrow, O.spoil, O.n2, O.n8, O.t1, O.t10, O.h9, O.d9, fun p hp => ?_, O.s50⟩
  rcases mem_set hp with h | h
  · exact O.b50 p h
  · exact ho p h.symm
theorem Ok.setSpoil {a : Abs} (O : Ok a) {i : Nat} {o : Option Nat} (ho : ∀ p, o = some p → p ≤ 50) : Ok { a with spoil := a.spoil.set i o } := by
  refine ⟨O.need, O.borrow, by show (a.spoil.set i o).length = a.n; rw [List.length_set]; exact O.spoil, O.n2, O.n8, O.t1, O.t10, O.h9, O.d9, O.b50, fun p hp => ?_⟩
  rcases mem_set hp with h | h
  · exact O.s50 p h
  · exact ho p h.symm
theorem Ok.setStep {a : Abs} (O : Ok a) {t : Nat} (h : ¬ (t = 0 ∨ 10 < t)) : Ok { a with step := t } :=
  ⟨O.need, O.borrow, O.spoil, O.n2, O.n8, by show 1 ≤ t; omega, by show t ≤ 10; omega, O.h9, O.d9, O.b50, O.s50⟩
theorem does_ok {a : Abs} (O : Ok a) (c : Call) : Ok (a.does c).1 := by
  cases c <;> simp only [Abs.does]
  case begin_ n t =>
    split
    · exact O
    · rename_i h; exact begun_ok h
  case have_ i x =>
    split
    · exact O
    · split
      · exact O
      · exact O.setHave (by omega)
  case need i x =>
    split
    · exact O
    · split
      · exact O
      · exact O.setNeed (by omega)
  case borrow i p =>
    split
    · exact O
    · split
      · exact O
      · exact O.setBorrow fun q e => by cases e; omega
  case spoil i p =>
    split
    · exact O
    · split
      · exact O
      · exact O.setSpoil fun q e => by cases e; omega
  case noborrow i =>
    split
    · exact O
    · split
      · exact O
      · exact O.setBorrow fun q e => by cases e
  case nospoil i =>
    split
    · exact O
    · split
      · exact O
      · exact O.setSpoil fun q e => by cases e
  case step t =>
    split
    · exact O
    · rename_i h; exact O.setStep h
  all_goals first
    | exact O
    | (split <;> first | exact O | (split <;> first | exact O | (split <;> exact O)))
end Haul
end
section
namespace Haul
open Kv364
def Num (x : Int) : Prop := 0 ≤ x ∧ x ≤ 4294967295
inductive Reads : Int → List Int → Call → List Int → Prop
  | c0 (x y : Int) (t : List Int) : Num x → Num y → Reads 0 (x :: y :: t) (.begin_ x.toNat y.toNat) t
  | c1 (x y : Int) (t : List Int) : Num x → Num y → Reads 1 (x :: y :: t) (.have_ x.toNat y.toNat) t
  | c2 (x y : Int) (t : List Int) : Num x → Num y → Reads 2 (x :: y :: t) (.need x.toNat y.toNat) t
  | c3 (x y : Int) (t : List Int) : Num x → Num y → Reads 3 (x :: y :: t) (.borrow x.toNat y.toNat) t
  | c4 (x : Int) (t : List Int) : Num x → Reads 4 (x :: t) (.noborrow x.toNat) t
  | c5 (x y : Int) (t : List Int) : Num x → Num y → Reads 5 (x :: y :: t) (.spoil x.toNat y.toNat) t
  | c6 (x : Int) (t : List Int) : Num x → Reads 6 (x :: t) (.nospoil x.toNat) t
  | c7 (x : Int) (t : List Int) : Num x → Reads 7 (x :: t) (.step x.toNat) t
  | c8 (t : List Int) : Reads 8 t .can t
  | c9 (t : List Int) : Reads 9 t .cost t
  | c10 (t : List Int) : Reads 10 t .flows t
  | c11 (t : List Int) : Reads 11 t .loads t
  | c12 (t : List Int) : Reads 12 t .borrowed t
  | c13 (t : List Int) : Reads 13 t .spoiled t
  | c14 (w t : List Int) : w.length ≤ 40 → (∀ x ∈ w, 0 ≤ x ∧ x ≤ 65535) → Reads 14 ((w.length : Int) :: (w ++ t)) (.try_ (w.map Int.toNat)) t
  | c15 (t : List Int) : Reads 15 t .prices t
  | c16 (w t : List Int) : w.length ≤ 40 → (∀ x ∈ w, 0 ≤ x ∧ x ≤ 65535) → Reads 16 ((w.length : Int) :: (w ++ t)) (.bound (w.map Int.toNat)) t
  | c17 (x : Int) (t : List Int) : Num x → Reads 17 (x :: t) (.ifstep x.toNat) t
  | c18 (x y : Int) (t : List Int) : Num x → Num y → Reads 18 (x :: y :: t) (.ifpit x.toNat y.toNat) t
  | c19 (x : Int) (t : List Int) : Num x → Reads 19 (x :: t) (.bestpit x.toNat) t
  | c20 (x : Int) (t : List Int) : Num x → Reads 20 (x :: t) (.without x.toNat) t
  | c21 (t : List Int) : Reads 21 t .farthest t
  | c22 (x : Int) (t : List Int) : Num x → Reads 22 (x :: t) (.station x.toNat) t
  | c23 (t : List Int) : Reads 23 t .sums t
  | c24 (t : List Int) : Reads 24 t .state t
def said (a : Ans) : List Int := ((a.ret :: a.nums).length : Int) :: a.ret :: a.nums
def Tail (s : State) (l : List Int) (k : Nat) (out : List Int) : Prop := ∃ f cs, PyFlat.calls PyKv364.shape f l = some cs ∧ cs.length ≤ k ∧ PyInside.calls PyKv364.bound cs = true ∧ out = PyFlat.told (PyFlat.played Kv364Neutral.step s (cs.map PyKv364.whole))
theorem Tail.start {l : List Int} (h : PyKv364.answers_asked l = true) : Tail none l 256 (PyKv364.answers l) := by
  unfold PyKv364.answers_asked at h
  unfold PyKv364.answers PyKv364.calls
  cases e : PyFlat.calls PyKv364.shape l.length l with
  | none => rw [e] at h; cases h
  | some cs =>
    rw [e] at h
    simp only [Bool.and_eq_true] at h
    obtain ⟨⟨⟨⟨_, h2⟩, h3⟩, _⟩, _⟩ := h
    exact ⟨l.length, cs, e, by simpa [PyFlat.atMost] using h2, h3, rfl⟩
theorem Tail.nil {s : State} {k : Nat} {out : List Int} (h : Tail s [] k out) : out = [] := by
  obtain ⟨f, cs, e, _, _, rfl⟩ := h
  have : cs = [] := by
    cases f <;> simp [PyFlat.calls] at e <;> exact e
  subst this
  rfl
theorem within_num {x : Int} (h : PyInside.within 0 4294967295 x = true) : Num x := by
  unfold PyInside.within at h
  simp only [Bool.and_eq_true, decide_eq_true_iff] at h
  exact h
theorem shape_range {p : Int} (h : PyKv364.shape p ≠ none) : 0 ≤ p ∧ p ≤ 24 := by
  refine Classical.byContradiction fun hn => h ?_
  unfold PyKv364.shape
  repeat rw [if_neg (by omega)]
theorem call_shape {p : Int} {r : List Int} {c : List (List Int)} {t : List Int} (e : PyFlat.call PyKv364.shape (p :: r) = some (c, t)) : 0 ≤ p ∧ p ≤ 24 := by
  refine shape_range fun h => ?_
  simp only [PyFlat.call, h] at e
  cases e
theorem call_2 {p : Int} {r : List Int} {c : List (List Int)} {t : List Int} (h : PyKv364.shape p = some (2, 0)) (e : PyFlat.call PyKv364.shape (p :: r) = some (c, t)) : ∃ x y, r = x :: y :: t ∧ c = [[p, x, y]] := by
  simp only [PyFlat.call, h, PyFlat.rows] at e
  match r, e with
  | [], e => simp at e
  | [x], e => simp at e
  | x :: y :: r, e =>
    simp at e
    exact ⟨x, y, by rw [e.2], e.1.symm⟩
theorem call_1 {p : Int} {r : List Int} {c : List (List Int)} {t : List Int} (h : PyKv364.shape p = some (1, 0)) (e : PyFlat.call PyKv364.shape (p :: r) = some (c, t)) : ∃ x, r = x :: t ∧ c = [[p, x]] := by
  simp only [PyFlat.call, h, PyFlat.rows] at e
  match r, e with
  | [], e => simp at e
  | x :: r, e =>
    simp at e
    exact ⟨x, by rw [e.2], e.1.symm⟩
theorem call_0 {p : Int} {r : List Int} {c : List (List Int)} {t : List Int} (h : PyKv364.shape p = some (0, 0)) (e : PyFlat.call PyKv364.shape (p :: r) = some (c, t)) : r = t ∧ c = [[p]] := by
  simp only [PyFlat.call, h, PyFlat.rows] at e
  simp at e
  exact ⟨e.2, e.1.symm⟩
theorem call_r {p : Int} {r : List Int} {c : List (List Int)} {t : List Int} (h : PyKv364.shape p = some (0, 1)) (e : PyFlat.call PyKv364.shape (p :: r) = some (c, t)) : ∃ w : List Int, r = (w.length : Int) :: (w ++ t) ∧ c = [[p], w] := by
  simp only [PyFlat.call, h, PyFlat.rows] at e
  match r, e with
  | [], e => simp [PyFlat.row] at e
  | n :: r, e =>
    simp only [List.drop_zero, PyFlat.row] at e
    by_cases hn : 0 ≤ n ∧ n.toNat ≤ r.length
    · rw [if_pos hn] at e
      simp at e
      refine ⟨r.take n.toNat, ?_, e.1.symm⟩
      rw [← e.2, List.take_append_drop, List.length_take]
      congr 1
      omega
    · rw [if_neg hn] at e
      simp at e
theorem in_1 {x : Int} (h : (PyInside.within 0 4294967295 x && true && true) = true) : Num x := by
  simp only [Bool.and_true] at h
  exact within_num h
theorem in_2 {x y : Int} (h : (PyInside.within 0 4294967295 x && (PyInside.within 0 4294967295 y && true) && true) = true) : Num x ∧ Num y := by
  simp only [Bool.and_true, Bool.and_eq_true] at h
  exact ⟨within_num h.1, within_num h.2⟩
theorem in_r {w : List Int} (h : (true && (decide (0 ≤ w.length) && decide (w.length ≤ 40) && w.all (PyInside.within 0 65535) && true)) = true) : w.length ≤ 40 ∧ ∀ x ∈ w, 0 ≤ x ∧ x ≤ 65535 := by
  simp only [Bool.and_true, Bool.true_and, Bool.and_eq_true, decide_eq_true_iff] at h
  refine ⟨h.1.2, fun x hx => ?_⟩
  have := List.all_eq_true.mp h.2 x hx
  unfold PyInside.within at this
  simp only [Bool.and_eq_true, decide_eq_true_iff] at this
  exact this
theorem Tail.cons {s : State} {p : Int} {r : List Int} {k : Nat} {out : List Int} (h : Tail s (p :: r) k out) :
    ∃ (c : Call) (t : List Int) (k' : Nat) (out' : List Int), Reads p r c t ∧ k = k' + 1 ∧ out = said (act s c).2 ++ out' ∧ Tail (act s c).1 t k' out' := by
  obtain ⟨f, cs, e, hk, hb, rfl⟩ := h
  cases f with
  | zero => simp [PyFlat.calls] at e
  | succ f =>
    simp only [PyFlat.calls] at e
    cases e1 : PyFlat.call PyKv364.shape (p :: r) with
    | none => rw [e1] at e; cases e
    | some ct =>
      obtain ⟨c, t⟩ := ct
      rw [e1] at e
      simp only at e
      cases e2 : PyFlat.calls PyKv364.shape f t with
      | none => rw [e2] at e; cases e
      | some cs' =>
        rw [e2] at e
        have e := Option.some.inj e
        subst e
        obtain ⟨k', rfl⟩ : ∃ k', k = k' + 1 := ⟨k - 1, by simp only [List.length_cons] at hk; omega⟩
        have hk' : cs'.length ≤ k' := by simp only [List.length_cons] at hk; omega
        simp only [PyInside.calls, List.all_cons, Bool.and_eq_true] at hb
        obtain ⟨hb1, hb2⟩ := hb
        have fin : ∀ (q : Call), Reads p r q t → Kv364Neutral.step s (PyKv364.whole c) = ((act s q).1, (act s q).2.ret :: (act s q).2.nums) → ∃ (c' : Call) (t' : List Int) (k'' : Nat) (out' : List Int), Reads p r c' t' ∧ k' + 1 = k'' + 1 ∧ PyFlat.told (PyFlat.played Kv364Neutral.step s ((c :: cs').map PyKv364.whole)) = said (act s c').2 ++ out' ∧ Tail (act s c').1 t' k'' out' := by
          intro q h1 h2
          refine ⟨q, t, k', _, h1, rfl, ?_, f, cs', e2, hk', hb2, rfl⟩
          simp only [List.map_cons, PyFlat.played, PyFlat.told, List.flatMap_cons, h2]
          rfl
        have hp := call_shape e1
        obtain ⟨n, rfl⟩ : ∃ n : Nat, p = (n : Int) := ⟨p.toNat, by omega⟩
        have hn : n < 25 := by omega
        clear hp
        match n, hn, hb1, e1, fin with
        | 0, _, hb1, e1, fin => obtain ⟨x, y, rfl, rfl⟩ := call_2 rfl e1; exact fin _ (.c0 x y t (in_2 hb1).1 (in_2 hb1).2) rfl
        | 1, _, hb1, e1, fin => obtain ⟨x, y, rfl, rfl⟩ := call_2 rfl e1; exact fin _ (.c1 x y t (in_2 hb1).1 (in_2 hb1).2) rfl
        | 2, _, hb1, e1, fin => obtain ⟨x, y, rfl, rfl⟩ := call_2 rfl e1; exact fin _ (.c2 x y t (in_2 hb1).1 (in_2 hb1).2) rfl
        | 3, _, hb1, e1, fin => obtain ⟨x, y, rfl, rfl⟩ := call_2 rfl e1; exact fin _ (.c3 x y t (in_2 hb1).1 (in_2 hb1).2) rfl
        | 4, _, hb1, e1, fin => obtain ⟨x, rfl, rfl⟩ := call_1 rfl e1; exact fin _ (.c4 x t (in_1 hb1)) rfl
        | 5, _, hb1, e1, fin => obtain ⟨x, y, rfl, rfl⟩ := call_2 rfl e1; exact fin _ (.c5 x y t (in_2 hb1).1 (in_2 hb1).2) rfl
        | 6, _, hb1, e1, fin => obtain ⟨x, rfl, rfl⟩ := call_1 rfl e1; exact fin _ (.c6 x t (in_1 hb1)) rfl
        | 7, _, hb1, e1, fin => obtain ⟨x, rfl, rfl⟩ := call_1 rfl e1; exact fin _ (.c7 x t (in_1 hb1)) rfl
        | 8, _, hb1, e1, fin => obtain ⟨rfl, rfl⟩ := call_0 rfl e1; exact fin _ (.c8 r) rfl
        | 9, _, hb1, e1, fin => obtain ⟨rfl, rfl⟩ := call_0 rfl e1; exact fin _ (.c9 r) rfl
        | 10, _, hb1, e1, fin => obtain ⟨rfl, rfl⟩ := call_0 rfl e1; exact fin _ (.c10 r) rfl
        | 11, _, hb1, e1, fin => obtain ⟨rfl, rfl⟩ := call_0 rfl e1; exact fin _ (.c11 r) rfl
        | 12, _, hb1, e1, fin => obtain ⟨rfl, rfl⟩ := call_0 rfl e1; exact fin _ (.c12 r) rfl
        | 13, _, hb1, e1, fin => obtain ⟨rfl, rfl⟩ := call_0 rfl e1; exact fin _ (.c13 r) rfl
        | 14, _, hb1, e1, fin => obtain ⟨w, rfl, rfl⟩ := call_r rfl e1; exact fin _ (.c14 w t (in_r hb1).1 (in_r hb1).2) rfl
        | 15, _, hb1, e1, fin => obtain ⟨rfl, rfl⟩ := call_0 rfl e1; exact fin _ (.c15 r) rfl
        | 16, _, hb1, e1, fin => obtain ⟨w, rfl, rfl⟩ := call_r rfl e1; exact fin _ (.c16 w t (in_r hb1).1 (in_r hb1).2) rfl
        | 17, _, hb1, e1, fin => obtain ⟨x, rfl, rfl⟩ := call_1 rfl e1; exact fin _ (.c17 x t (in_1 hb1)) rfl
        | 18, _, hb1, e1, fin => obtain ⟨x, y, rfl, rfl⟩ := call_2 rfl e1; exact fin _ (.c18 x y t (in_2 hb1).1 (in_2 hb1).2) rfl
        | 19, _, hb1, e1, fin => obtain ⟨x, rfl, rfl⟩ := call_1 rfl e1; exact fin _ (.c19 x t (in_1 hb1)) rfl
        | 20, _, hb1, e1, fin => obtain ⟨x, rfl, rfl⟩ := call_1 rfl e1; exact fin _ (.c20 x t (in_1 hb1)) rfl
        | 21, _, hb1, e1, fin => obtain ⟨rfl, rfl⟩ := call_0 rfl e1; exact fin _ (.c21 r) rfl
        | 22, _, hb1, e1, fin => obtain ⟨x, rfl, rfl⟩ := call_1 rfl e1; exact fin _ (.c22 x t (in_1 hb1)) rfl
        | 23, _, hb1, e1, fin => obtain ⟨rfl, rfl⟩ := call_0 rfl e1; exact fin _ (.c23 r) rfl
        | 24, _, hb1, e1, fin => obtain ⟨rfl, rfl⟩ := call_0 rfl e1; exact fin _ (.c24 r) rfl
        | n + 25, h, _, _, _ => omega
end Haul
end
section
namespace Haul
open Kv364
theorem Ok.cost_nonneg {a : Abs} (O : Ok a) {b : Plan} (e : a.best = some b) : 0 ≤ b.cost := by
  have B := (O.best e).1
  exact costs_nonneg B.way
def pickPit (o : Option (Nat × Int)) (x : Nat × Int) : Option (Nat × Int) := match o with
  | none => some x
  | some y => if x.2 < y.2 then some x else some y
theorem pickPit_go : ∀ (l : List (Nat × Int)) (y : Nat × Int), (∀ x ∈ l, y.1 < x.1) → l.Pairwise (fun x y => x.1 < y.1) → ∃ z, l.foldl pickPit (some y) = some z ∧ (z = y ∨ z ∈ l) ∧ (z.2 ≤ y.2 ∧ (y.2 = z.2 → z.1 ≤ y.1)) ∧ ∀ x ∈ l, z.2 ≤ x.2 ∧ (x.2 = z.2 → z.1 ≤ x.1)
  | [], y, _, _ => ⟨y, rfl, .inl rfl, ⟨Int.le_refl _, fun _ => Nat.le_refl _⟩, fun x hx => by cases hx⟩
  | w :: l, y, h1, h2 => by
    obtain ⟨h3, h4⟩ := List.pairwise_cons.mp h2
    have hw := h1 w List.mem_cons_self
    simp only [List.foldl_cons, pickPit]
    split
    · rename_i hlt
      obtain ⟨z, e, m, ⟨q1, q2⟩, q3⟩ := pickPit_go l w h3 h4
      refine ⟨z, e, .inr (by rcases m with rfl | m; exact List.mem_cons_self; exact List.mem_cons_of_mem _ m), ⟨by omega, fun e => by omega⟩, fun x hx => ?_⟩
      rcases List.mem_cons.mp hx with rfl | hx
      · exact ⟨q1, q2⟩
      · exact q3 x hx
    · rename_i hlt
      obtain ⟨z, e, m, ⟨q1, q2⟩, q3⟩ := pickPit_go l y (fun x hx => h1 x (List.mem_cons_of_mem _ hx)) h4
      refine ⟨z, e, by rcases m with rfl | m; exact .inl rfl; exact .inr (List.mem_cons_of_mem _ m), ⟨q1, q2⟩, fun x hx => ?_⟩
      rcases List.mem_cons.mp hx with rfl | hx
      · exact ⟨by omega, fun e => by have := q2 (by omega); omega⟩
      · exact q3 x hx
theorem pickPit_range (n : Nat) (g : Nat → Option Int) :
    (((List.range n).filterMap fun i => (g i).map fun c => (i, c)).foldl pickPit none = none ∧ ∀ i, i < n → g i = none) ∨
    ∃ j m, ((List.range n).filterMap fun i => (g i).map fun c => (i, c)).foldl pickPit none = some (j, m) ∧ j < n ∧ g j = some m ∧ (∀ i c, i < n → g i = some c → m ≤ c) ∧ ∀ i, i < j → g i ≠ some m := by
  have mem : ∀ x : Nat × Int, x ∈ ((List.range n).filterMap fun i => (g i).map fun c => (i, c)) ↔ x.1 < n ∧ g x.1 = some x.2 := fun x => by
    rw [List.mem_filterMap]
    constructor
    · rintro ⟨i, hi, e⟩
      obtain ⟨c, hc, rfl⟩ := Option.map_eq_some_iff.mp e
      exact ⟨List.mem_range.mp hi, hc⟩
    · rintro ⟨h1, h2⟩
      exact ⟨x.1, List.mem_range.mpr h1, by rw [h2]; rfl⟩
  have pw : ((List.range n).filterMap fun i => (g i).map fun c => (i, c)).Pairwise (fun x y => x.1 < y.1) := by
    refine List.Pairwise.filterMap _ (R := (· < ·)) ?_ List.pairwise_lt_range
    intro i j hij x hx y hy
    obtain ⟨c, _, rfl⟩ := Option.map_eq_some_iff.mp hx
    obtain ⟨c', _, rfl⟩ := Option.map_eq_some_iff.mp hy
    exact hij
  generalize ((List.range n).filterMap fun i => (g i).map fun c => (i, c)) = l at mem pw
  cases l with
  | nil =>
    refine .inl ⟨rfl, fun i hi => ?_⟩
    cases e : g i with
    | none => rfl
    | some c => exact absurd ((mem (i, c)).mpr ⟨hi, e⟩) (by simp)
  | cons y l =>
    obtain ⟨h3, h4⟩ := List.pairwise_cons.mp pw
    obtain ⟨z, e, m, ⟨q1, q2⟩, q3⟩ := pickPit_go l y h3 h4
    have zm : z ∈ y :: l := by rcases m with rfl | m; exact List.mem_cons_self; exact List.mem_cons_of_mem _ m
    have q : ∀ x ∈ y :: l, z.2 ≤ x.2 ∧ (x.2 = z.2 → z.1 ≤ x.1) := fun x hx => by
      rcases List.mem_cons.mp hx with rfl | hx
      · exact ⟨q1, q2⟩
      · exact q3 x hx
    obtain ⟨z1, z2⟩ := (mem z).mp zm
    refine .inr ⟨z.1, z.2, e, z1, z2, fun i c hi hc => (q (i, c) ((mem (i, c)).mpr ⟨hi, hc⟩)).1, fun i hi hc => ?_⟩
    have := (q (i, z.2) ((mem (i, z.2)).mpr ⟨by omega, hc⟩)).2 rfl
    have : z.1 ≤ i := this
    omega
theorem bestPit_fold (a : Abs) (p : Nat) : a.bestPit p = ((List.range a.n).filterMap fun i => (((a.withPit i p).best).map Plan.cost).map fun c => (i, c)).foldl pickPit none := by
  unfold Abs.bestPit
  simp only [Option.map_map]
  rfl
end Haul
end
section
namespace Haul
open Kv364
def wc (t : Nat) : List Spot → Int → List Int → Int
  | s :: l, f, g :: r => onw t s (f + s.extra) g + wc t l g r
  | _, _, _ => 0
def Ends : List Spot → Int → List Int → Prop
  | [], f, [] => f = 0
  | _ :: l, _, g :: r => Ends l g r
  | _, _, _ => False
theorem ends_of : ∀ {l : List Spot} {f : Int} {xs : List Int}, l.length = xs.length + 1 → Ends l f (xs ++ [0])
  | [], f, xs, h => by simp at h
  | s :: l, f, [], h => by
    have : l = [] := by simpa using h
    subst this
    rfl
  | s :: l, f, x :: xs, h => ends_of (l := l) (f := x) (xs := xs) (by simp at h; omega)
theorem wc_nonneg (t : Nat) : ∀ (l : List Spot) (f : Int) (gs : List Int), 0 ≤ wc t l f gs
  | [], _, _ => Int.le_refl _
  | _ :: _, _, [] => Int.le_refl _
  | s :: l, f, g :: r => Int.add_nonneg (onw_nonneg t s (f + s.extra) g) (wc_nonneg t l g r)
theorem wc_some {a : Abs} : ∀ {l : List Spot} {f : Int} {gs : List Int} {c : Int}, a.costs l f gs = some c → wc a.step l f gs = c
  | [], f, [], c, h => by
    simp only [Abs.costs] at h
    split at h
    · cases h; rfl
    · cases h
  | [], f, g :: r, c, h => by simp [Abs.costs] at h
  | s :: l, f, [], c, h => by simp [Abs.costs] at h
  | s :: l, f, g :: r, c, h => by
    simp only [Abs.costs] at h
    cases e1 : s.price (g - f - s.extra) with
    | none => rw [e1] at h; cases h
    | some p =>
      cases e2 : a.costs l g r with
      | none => rw [e1, e2] at h; cases h
      | some c' =>
        rw [e1, e2] at h
        have h := Option.some.inj h
        unfold wc
        rw [onw_price e1, wc_some e2]
        exact h
theorem wc_lt {a : Abs} : ∀ {l : List Spot} {f : Int} {gs : List Int}, Ends l f gs → wc a.step l f gs < NEVER → ∃ c, a.costs l f gs = some c
  | [], f, [], e, _ => ⟨0, by simp only [Abs.costs]; exact if_pos e⟩
  | [], f, g :: r, e, _ => e.elim
  | s :: l, f, [], e, _ => e.elim
  | s :: l, f, g :: r, e, h => by
    unfold wc at h
    have h1 := wc_nonneg a.step l g r
    have h2 := onw_nonneg a.step s (f + s.extra) g
    obtain ⟨p, hp⟩ := price_onw (t := a.step) (s := s) (f := f) (g := g) (by omega)
    obtain ⟨c, hc⟩ := wc_lt (a := a) (l := l) (f := g) (gs := r) e (by omega)
    exact ⟨(a.step : Int) * (g.natAbs : Int) + p + c, by simp only [Abs.costs, hp, hc]⟩
theorem Ok.try {a : Abs} (O : Ok a) {xs : List Int} (hl : xs.length + 1 = a.n) (hx : ∀ x ∈ xs, -72 ≤ x ∧ x ≤ 72) :
    (if wc a.step a.spots 0 (xs ++ [0]) < NEVER then wc a.step a.spots 0 (xs ++ [0]) else -33) = (match a.costs a.spots 0 (xs ++ [0]) with
      | none => -33
      | some c => c) := by
  have el : a.spots.length = a.n := spots_len a
  cases e : a.costs a.spots 0 (xs ++ [0]) with
  | none =>
    rw [if_neg]
    intro h
    obtain ⟨c, hc⟩ := wc_lt (ends_of (by omega)) h
    rw [e] at hc
    cases hc
  | some c =>
    have w := wc_some e
    have n8 := O.n8
    have le := cost_le O.t10 O.spots ⟨by omega, by omega⟩ (fun g hg => by
      rcases List.mem_append.mp hg with hg | hg
      · exact hx g hg
      · have : g = 0 := by simpa using hg
        omega) e
    rw [el] at le
    rw [w, if_pos]
    unfold NEVER
    omega
theorem foldl_max_of : ∀ (l : List Nat) (m : Nat), (∀ x ∈ l, x ≤ m) → ∀ acc, acc ≤ m → (acc = m ∨ m ∈ l) → l.foldl max acc = m
  | [], m, _, acc, _, h => by rcases h with h | h; exact h; cases h
  | x :: l, m, h, acc, ha, hm => by
    rw [List.foldl_cons]
    have hx := h x List.mem_cons_self
    refine foldl_max_of l m (fun y hy => h y (List.mem_cons_of_mem _ hy)) _ (by omega) ?_
    rcases hm with hm | hm
    · left; omega
    · rcases List.mem_cons.mp hm with hm | hm
      · left; omega
      · right; exact hm
theorem count_none : ∀ l : List (Option Nat), ((l.map pr).countP fun n => decide (n = -1)) + (l.filter fun x => x.isSome).length = l.length
  | [] => rfl
  | none :: l => by
    have h := count_none l
    rw [List.map_cons, List.countP_cons_of_pos (by rfl), List.filter_cons_of_neg (by simp), List.length_cons]
    omega
  | some p :: l => by
    have h := count_none l
    rw [List.map_cons, List.countP_cons_of_neg (by show ¬ decide (((p : Nat) : Int) = -1) = true; rw [decide_eq_true_iff]; omega), List.filter_cons_of_pos (by rfl), List.length_cons, List.length_cons]
    omega
end Haul
end
section
namespace Haul
open Kv364
theorem zip_getD_all {l : List Spot} {us : List Int} {a : Abs} (hl : l = a.spots) (hu : us.length = a.n) (f : Spot → Int → Bool) : ((l.zip us).all fun x => f x.1 x.2) = true ↔ ∀ i, i < a.n → f (a.spot i) (us.getD i 0) = true := by
  subst hl
  rw [List.all_eq_true]
  have el : a.spots.length = a.n := spots_len a
  constructor
  · intro h i hi
    have := h (a.spot i, us.getD i 0) (by
      refine List.mem_of_getElem? (i := i) ?_
      rw [List.getElem?_zip_eq_some]
      refine ⟨?_, ?_⟩
      · simp [Abs.spots, List.getElem?_map, List.getElem?_range hi]
      · rw [List.getD_eq_getElem?_getD, List.getElem?_eq_getElem (by omega)]
        rfl)
    exact this
  · intro h x hx
    obtain ⟨i, hi⟩ := List.getElem?_of_mem hx
    rw [List.getElem?_zip_eq_some] at hi
    obtain ⟨h1, h2⟩ := hi
    have hlt := (List.getElem?_eq_some_iff.mp h2).1
    have e1 : x.1 = a.spot i := by
      simp only [Abs.spots, List.getElem?_map] at h1
      rw [List.getElem?_range (by omega)] at h1
      exact (Option.some.inj h1).symm
    have e2 : x.2 = us.getD i 0 := by
      rw [List.getD_eq_getElem?_getD, h2]
      rfl
    rw [e1, e2]
    exact h i (by omega)
theorem zip_next_all {us : List Int} (f : Int → Int → Bool) : ((us.zip (us.drop 1)).all fun x => f x.1 x.2) = true ↔ ∀ i, i + 1 < us.length → f (us.getD i 0) (us.getD (i + 1) 0) = true := by
  rw [List.all_eq_true]
  constructor
  · intro h i hi
    exact h (us.getD i 0, us.getD (i + 1) 0) (by
      refine List.mem_of_getElem? (i := i) ?_
      rw [List.getElem?_zip_eq_some]
      refine ⟨?_, ?_⟩
      · rw [List.getD_eq_getElem?_getD, List.getElem?_eq_getElem (by omega)]
        rfl
      · show (us.drop 1)[i]? = some (us.getD (i + 1) 0)
        rw [List.getElem?_drop, Nat.add_comm 1 i, List.getD_eq_getElem?_getD, List.getElem?_eq_getElem hi]
        rfl)
  · intro h x hx
    obtain ⟨i, hi⟩ := List.getElem?_of_mem hx
    rw [List.getElem?_zip_eq_some] at hi
    obtain ⟨h1, h2⟩ := hi
    rw [List.getElem?_drop, Nat.add_comm 1 i] at h2
    have hlt := (List.getElem?_eq_some_iff.mp h2).1
    have e1 : x.1 = us.getD i 0 := by rw [List.getD_eq_getElem?_getD, h1]; rfl
    have e2 : x.2 = us.getD (i + 1) 0 := by rw [List.getD_eq_getElem?_getD, h2]; rfl
    rw [e1, e2]
    exact h i hlt
def near (t : Nat) (u v : Int) : Bool := decide (v - u ≤ (t : Int)) && decide (u - v ≤ (t : Int))
theorem near_iff {t : Nat} {u v : Int} : near t u v = true ↔ ¬ (t : Int) < (if v - u < 0 then -(v - u) else v - u) := by
  unfold near
  rw [Bool.and_eq_true, decide_eq_true_iff, decide_eq_true_iff]
  split <;> omega
theorem allowed_iff {a : Abs} {us : List Int} (hu : us.length = a.n) : a.allowed us = true ↔ (∀ i, i < a.n → (a.spot i).allows (us.getD i 0) = true) ∧ ∀ i, i + 1 < a.n → near a.step (us.getD i 0) (us.getD (i + 1) 0) = true := by
  unfold Abs.allowed
  have e := zip_next_all (us := us) (near a.step)
  unfold near at e
  rw [Bool.and_eq_true, Bool.and_eq_true, decide_eq_true_iff, zip_getD_all rfl hu Spot.allows, e, hu]
  unfold near
  simp
theorem says_eq {a : Abs} {us : List Int} (hu : us.length = a.n) : a.says us = ((List.range us.length).map fun i => -((a.spot i).extra) * us.getD i 0).sum := by
  unfold Abs.says
  congr 1
  have el : a.spots.length = a.n := spots_len a
  apply List.ext_getElem?
  intro i
  rw [List.getElem?_map, List.getElem?_map]
  by_cases hi : i < us.length
  · rw [List.getElem?_range hi]
    have : (a.spots.zip us)[i]? = some (a.spot i, us.getD i 0) := by
      rw [List.getElem?_zip_eq_some]
      refine ⟨?_, ?_⟩
      · simp only [Abs.spots, List.getElem?_map]
        rw [List.getElem?_range (by omega)]
        rfl
      · rw [List.getD_eq_getElem?_getD, List.getElem?_eq_getElem hi]
        rfl
    rw [this]
    rfl
  · rw [List.getElem?_eq_none (by simp; omega), List.getElem?_eq_none (by simp; omega)]
    rfl
theorem shift_eq {ns : List Int} (h : ∀ x ∈ ns, 0 ≤ x) (k : Nat) : shift (ns.map Int.toNat) k = ns.map fun x => x - (k : Int) := by
  unfold shift
  rw [List.map_map]
  exact List.map_congr_left fun x hx => by
    have := h x hx
    simp only [Function.comp_apply]
    omega
theorem any_big {ns : List Int} (h : ∀ x ∈ ns, 0 ≤ x) (k : Nat) : ((ns.map Int.toNat).any fun x => decide (k < x)) = true ↔ ¬ ∀ x ∈ ns, x ≤ (k : Int) := by
  rw [List.any_map, List.any_eq_true]
  constructor
  · rintro ⟨x, hx, e⟩ q
    have e := of_decide_eq_true e
    have := q x hx
    have := h x hx
    simp only [Function.comp_apply] at *
    omega
  · intro q
    refine Classical.byContradiction fun n => q fun x hx => Classical.byContradiction fun c => n ⟨x, hx, ?_⟩
    have := h x hx
    exact decide_eq_true (by show k < x.toNat; omega)
end Haul
end
section
namespace Haul
open Kv364
def sob (s : Spot) (u : Int) : Int := if s.allows u = true then -(s.extra) * u else -1000000
def mx (l : List Int) : Int := l.foldl max (l.headD 0)
theorem foldl_max_go : ∀ (l : List Int) (acc : Int), (l.foldl max acc = acc ∨ l.foldl max acc ∈ l) ∧ acc ≤ l.foldl max acc ∧ ∀ x ∈ l, x ≤ l.foldl max acc
  | [], acc => ⟨.inl rfl, Int.le_refl _, fun x hx => by cases hx⟩
  | y :: l, acc => by
    obtain ⟨h1, h2, h3⟩ := foldl_max_go l (max acc y)
    rw [List.foldl_cons]
    refine ⟨?_, by omega, fun x hx => ?_⟩
    · rcases h1 with h1 | h1
      · rw [h1]
        by_cases c : acc ≤ y
        · rw [Int.max_eq_right c]; exact .inr List.mem_cons_self
        · rw [Int.max_eq_left (by omega)]; exact .inl rfl
      · exact .inr (List.mem_cons_of_mem _ h1)
    · rcases List.mem_cons.mp hx with rfl | hx
      · omega
      · exact h3 x hx
theorem mx_mem {l : List Int} (h : 0 < l.length) : mx l ∈ l := by
  cases l with
  | nil => simp at h
  | cons x l =>
    unfold mx
    rcases (foldl_max_go (x :: l) x).1 with e | e
    · show (x :: l).foldl max x ∈ _
      rw [e]
      exact List.mem_cons_self
    · exact e
theorem mx_le {l : List Int} {x : Int} (h : x ∈ l) : x ≤ mx l := (foldl_max_go l _).2.2 x h
theorem mx_eq {l : List Int} {M : Int} (h1 : M ∈ l) (h2 : ∀ x ∈ l, x ≤ M) : M = mx l := by
  have a := mx_le h1
  have b := h2 _ (mx_mem (List.length_pos_of_mem h1))
  omega
def win (T : List Int) (k t : Nat) : List Int := (T.drop (k - t)).take (k + t + 1 - (k - t))
def at_ (T : List Int) (u : Int) : Int := T.getD (u + 130).toNat 0
def tabOf (s : Spot) (B : List Int) : List Int := (List.range 261).map fun (k : Nat) => sob s ((k : Int) - 130) + B.getD k 0
def beh (t : Nat) : List Spot → List Int
  | [] => List.replicate 261 0
  | s :: l => (List.range 261).map fun (k : Nat) => mx (win (tabOf s (beh t l)) k t)
theorem tabOf_len (s : Spot) (B : List Int) : (tabOf s B).length = 261 := by unfold tabOf; rw [List.length_map, List.length_range]
theorem beh_len (t : Nat) : ∀ l : List Spot, (beh t l).length = 261
  | [] => by unfold beh; rw [List.length_replicate]
  | s :: l => by unfold beh; rw [List.length_map, List.length_range]
theorem getD_range_map {n k : Nat} (F : Nat → Int) (h : k < n) : ((List.range n).map F).getD k 0 = F k := by
  rw [List.getD_eq_getElem?_getD, List.getElem?_map, List.getElem?_range h]
  rfl
theorem at_tabOf {s : Spot} {B : List Int} {u : Int} (h1 : -130 ≤ u) (h2 : u ≤ 130) : at_ (tabOf s B) u = sob s u + at_ B u := by
  unfold at_ tabOf
  rw [getD_range_map _ (by omega), show (((u + 130).toNat : Nat) : Int) - 130 = u by omega]
theorem at_beh {t : Nat} {s : Spot} {l : List Spot} {u : Int} (h1 : -130 ≤ u) (h2 : u ≤ 130) : at_ (beh t (s :: l)) u = mx (win (tabOf s (beh t l)) (u + 130).toNat t) := by
  unfold at_
  rw [beh, getD_range_map _ (by omega)]
theorem at_beh_nil {t : Nat} {u : Int} : at_ (beh t []) u = 0 := by
  unfold at_ beh
  rw [List.getD_eq_getElem?_getD, List.getElem?_replicate]
  split <;> rfl
theorem win_len {T : List Int} {k t : Nat} (hT : T.length = 261) (hk : k < 261) : (win T k t).length = min (k + t + 1) 261 - (k - t) := by
  unfold win
  rw [List.length_take, List.length_drop, hT]
  omega
theorem win_get {T : List Int} {k t i : Nat} (h : i < k + t + 1 - (k - t)) : (win T k t)[i]? = T[k - t + i]? := by
  unfold win
  rw [List.getElem?_take_of_lt h, List.getElem?_drop]
theorem at_mem {T : List Int} {u v : Int} {t : Nat} (hT : T.length = 261) (h1 : -130 ≤ u) (h2 : u ≤ 130) (h3 : -130 ≤ v) (h4 : v ≤ 130) (h5 : v - u ≤ (t : Int)) (h6 : u - v ≤ (t : Int)) : (win T (u + 130).toNat t)[(v + 130).toNat - ((u + 130).toNat - t)]? = some (at_ T v) := by
  rw [win_get (by omega), show (u + 130).toNat - t + ((v + 130).toNat - ((u + 130).toNat - t)) = (v + 130).toNat by omega]
  unfold at_
  rw [List.getD_eq_getElem?_getD, List.getElem?_eq_getElem (by omega)]
  rfl
def nxt (t : Nat) (T : List Int) (u : Int) : Int := max (u - (t : Int)) (-130) + (((win T (u + 130).toNat t).idxOf (mx (win T (u + 130).toNat t)) : Nat) : Int)
structure Nxt (t : Nat) (T : List Int) (u v : Int) : Prop where
  lo : -130 ≤ v
  hi : v ≤ 130
  up : v - u ≤ (t : Int)
  dn : u - v ≤ (t : Int)
  val : at_ T v = mx (win T (u + 130).toNat t)
  least : ∀ w, -130 ≤ w → w ≤ 130 → w - u ≤ (t : Int) → u - w ≤ (t : Int) → at_ T w = mx (win T (u + 130).toNat t) → v ≤ w
theorem nxt_ok {t : Nat} {T : List Int} {u : Int} (hT : T.length = 261) (h1 : -130 ≤ u) (h2 : u ≤ 130) : Nxt t T u (nxt t T u) := by
  have hl := win_len (T := T) (k := (u + 130).toNat) (t := t) hT (by omega)
  have hm : mx (win T (u + 130).toNat t) ∈ win T (u + 130).toNat t := mx_mem (by omega)
  have hi := List.idxOf_lt_length_of_mem hm
  have hg := List.getElem_idxOf hi
  unfold nxt
  generalize hM : mx (win T (u + 130).toNat t) = M at hm hi hg
  generalize hj : (win T (u + 130).toNat t).idxOf M = j at hi hg
  have hv : max (u - (t : Int)) (-130) + (j : Int) = (((u + 130).toNat - t + j : Nat) : Int) - 130 := by omega
  rw [hv]
  have e1 : (((((u + 130).toNat - t + j : Nat) : Int) - 130) + 130).toNat = (u + 130).toNat - t + j := by omega
  refine ⟨by omega, by omega, by omega, by omega, ?_, fun w w1 w2 w3 w4 w5 => ?_⟩
  · unfold at_
    rw [e1, List.getD_eq_getElem?_getD, ← win_get (T := T) (k := (u + 130).toNat) (t := t) (i := j) (by omega), List.getElem?_eq_getElem hi, hM]
    exact hg
  · have q := at_mem (T := T) (t := t) hT h1 h2 w1 w2 w3 w4
    rw [w5, hM] at q
    have hq := (List.getElem?_eq_some_iff.mp q).1
    by_cases c : j ≤ (w + 130).toNat - ((u + 130).toNat - t)
    · omega
    · have := List.not_of_lt_findIdx (p := (· == M)) (xs := win T (u + 130).toNat t) (i := (w + 130).toNat - ((u + 130).toNat - t)) (by
        have : (win T (u + 130).toNat t).findIdx (· == M) = j := hj
        omega)
      rw [(List.getElem?_eq_some_iff.mp q).2] at this
      simp at this
def chain (t : Nat) : List Spot → Int → List Int
  | [], _ => []
  | s :: l, u => nxt t (tabOf s (beh t l)) u :: chain t l (nxt t (tabOf s (beh t l)) u)
def PRow (t : Nat) : List Spot → List Int → Int → Prop
  | [], us, c => us = [] ∧ c = 0
  | s :: l, us, c => ∃ u r d, us = u :: r ∧ -130 ≤ u ∧ u ≤ 130 ∧ (∀ v ∈ r.head?, v - u ≤ (t : Int) ∧ u - v ≤ (t : Int)) ∧ PRow t l r d ∧ c = sob s u + d
theorem Row.p {t : Nat} : ∀ {l : List Spot} {us : List Int} {c : Int}, Row t l us c → PRow t l us c
  | [], us, c, h => h
  | s :: l, us, c, ⟨u, r, d, e, h1, h2, h3, h4, h5, h6⟩ => ⟨u, r, d, e, h2, h3, h4, h5.p, by unfold sob; rw [if_pos h1]; exact h6⟩
theorem mul_le {e u : Int} (h1 : -9 ≤ e) (h2 : e ≤ 9) (h3 : -130 ≤ u) (h4 : u ≤ 130) : -e * u ≤ 1170 := by
  have h : (-e * u).natAbs = e.natAbs * u.natAbs := by rw [Int.natAbs_mul, Int.natAbs_neg]
  have q := Nat.mul_le_mul (show e.natAbs ≤ 9 by omega) (show u.natAbs ≤ 130 by omega)
  omega
theorem sob_le {s : Spot} (O : SpotOk s) {u : Int} (h1 : -130 ≤ u) (h2 : u ≤ 130) : sob s u ≤ 1170 := by
  unfold sob
  split
  · exact mul_le O.e1 O.e2 h1 h2
  · omega
theorem PRow.le {t : Nat} : ∀ {l : List Spot} {us : List Int} {c : Int}, (∀ s ∈ l, SpotOk s) → PRow t l us c → c ≤ 1170 * (l.length : Int)
  | [], us, c, _, h => by rw [h.2]; simp
  | s :: l, us, c, O, ⟨u, r, d, e, h2, h3, h4, h5, h6⟩ => by
    have a := sob_le (O s List.mem_cons_self) h2 h3
    have b := PRow.le (fun s hs => O s (List.mem_cons_of_mem _ hs)) h5
    rw [List.length_cons]
    omega
theorem PRow.row {t : Nat} : ∀ {l : List Spot} {us : List Int} {c : Int}, (∀ s ∈ l, SpotOk s) → PRow t l us c → Row t l us c ∨ c ≤ -1000000 + 1170 * (l.length : Int)
  | [], us, c, _, h => .inl h
  | s :: l, us, c, O, ⟨u, r, d, e, h2, h3, h4, h5, h6⟩ => by
    have O' : ∀ s ∈ l, SpotOk s := fun s hs => O s (List.mem_cons_of_mem _ hs)
    have a := sob_le (O s List.mem_cons_self) h2 h3
    have b := h5.le O'
    rw [List.length_cons]
    cases ea : s.allows u with
    | false =>
      right
      unfold sob at h6
      rw [if_neg (by rw [ea]; simp)] at h6
      omega
    | true =>
      rcases h5.row O' with q | q
      · left
        unfold sob at h6
        rw [if_pos ea] at h6
        exact ⟨u, r, d, e, ea, h2, h3, h4, q, h6⟩
      · right
        omega
theorem zero_row0 (t : Nat) : ∀ l : List Spot, Row t l (List.replicate l.length 0) 0
  | [] => ⟨rfl, rfl⟩
  | s :: l => by
    refine row_cons.mpr ⟨0, ?_, by omega, by omega, fun v hv => ?_, zero_row0 t l, by omega⟩
    · unfold Spot.allows
      cases s.borrow <;> cases s.spoil <;> simp <;> omega
    · cases l with
      | nil => cases hv
      | cons s2 l2 =>
        have : (0 : Int) = v := Option.some.inj hv
        omega
theorem chain_ok {t : Nat} : ∀ (l : List Spot) (s : Spot) (u : Int), -130 ≤ u → u ≤ 130 → PRow t (s :: l) (u :: chain t l u) (at_ (tabOf s (beh t l)) u) ∧
    ∀ r c, PRow t (s :: l) (u :: r) c → c ≤ at_ (tabOf s (beh t l)) u ∧ (c = at_ (tabOf s (beh t l)) u → chain t l u = r ∨ LexLt (chain t l u) r)
  | [], s, u, h1, h2 => by
    rw [at_tabOf h1 h2, at_beh_nil]
    refine ⟨⟨u, [], 0, rfl, h1, h2, fun v hv => by simp at hv, ⟨rfl, rfl⟩, rfl⟩, ?_⟩
    rintro r c ⟨u', r', d, e, _, _, _, ⟨e2, e3⟩, e4⟩
    cases e
    subst e2 e3 e4
    exact ⟨Int.le_refl _, fun _ => .inl rfl⟩
  | s' :: l, s, u, h1, h2 => by
    have N := nxt_ok (t := t) (T := tabOf s' (beh t l)) (u := u) (tabOf_len _ _) h1 h2
    rw [at_tabOf h1 h2, at_beh h1 h2]
    simp only [chain]
    generalize nxt t (tabOf s' (beh t l)) u = v at N
    obtain ⟨g1, g2⟩ := chain_ok l s' v N.lo N.hi
    rw [← N.val]
    refine ⟨⟨u, _, _, rfl, h1, h2, fun v' hv => ?_, g1, rfl⟩, ?_⟩
    · have : v = v' := Option.some.inj hv
      subst this
      exact ⟨N.up, N.dn⟩
    · rintro r c ⟨u', r', d, e, _, _, h4, h5, h6⟩
      cases e
      obtain ⟨w, r2, d2, e, w1, w2, w3, w4, w5⟩ := h5
      subst e
      obtain ⟨n1, n2⟩ := h4 w rfl
      obtain ⟨q1, q2⟩ := (chain_ok l s' w w1 w2).2 r2 d ⟨w, r2, d2, rfl, w1, w2, w3, w4, w5⟩
      have hle : at_ (tabOf s' (beh t l)) w ≤ at_ (tabOf s' (beh t l)) v := by
        rw [N.val]
        exact mx_le (List.mem_of_getElem? (at_mem (tabOf_len _ _) h1 h2 w1 w2 n1 n2))
      refine ⟨by omega, fun ec => ?_⟩
      have ew : at_ (tabOf s' (beh t l)) w = at_ (tabOf s' (beh t l)) v := by omega
      have hvw := N.least w w1 w2 n1 n2 (by rw [ew, N.val])
      by_cases c : v = w
      · subst c
        rcases q2 (by omega) with q | q
        · left; rw [q]
        · right; exact .inr ⟨rfl, q⟩
      · right
        exact .inl (by omega)
theorem told_of {t : Nat} {s : Spot} {l : List Spot} {u : Int} (O : ∀ x ∈ s :: l, SpotOk x) (hn : (s :: l).length ≤ 8) (h1 : -130 ≤ u) (h2 : u ≤ 130) (hm : ∀ v, -130 ≤ v → v ≤ 130 → at_ (tabOf s (beh t l)) v ≤ at_ (tabOf s (beh t l)) u)
    (hf : ∀ v, -130 ≤ v → v ≤ 130 → at_ (tabOf s (beh t l)) v = at_ (tabOf s (beh t l)) u → u = v ∨ Nearer u v) : Told t (s :: l) (at_ (tabOf s (beh t l)) u) (u :: chain t l u) := by
  have z := (zero_row0 t (s :: l)).p
  have z0 := ((chain_ok (t := t) l s 0 (by omega) (by omega)).2 _ _ z).1
  have z1 := hm 0 (by omega) (by omega)
  obtain ⟨c1, c2⟩ := chain_ok (t := t) l s u h1 h2
  refine ⟨?_, fun us' c' h => ?_⟩
  · rcases c1.row O with q | q
    · exact q
    · have : ((s :: l).length : Int) ≤ 8 := by omega
      omega
  · obtain ⟨u', r', d, e, ha, g1, g2, g3⟩ := h
    subst e
    have hp : PRow t (s :: l) (u' :: r') c' := Row.p ⟨u', r', d, rfl, ha, g1, g2, g3⟩
    obtain ⟨b1, b2⟩ := (chain_ok (t := t) l s u' g1 g2).2 r' c' hp
    have b3 := hm u' g1 g2
    by_cases cc : c' = at_ (tabOf s (beh t l)) u
    · refine .inr ⟨cc, ?_⟩
      rcases hf u' g1 g2 (by omega) with e | e
      · subst e
        rcases b2 cc with e2 | e2
        · left; rw [e2]
        · right
          exact ⟨u, u, rfl, rfl, .inr ⟨rfl, .inr ⟨rfl, e2⟩⟩⟩
      · right
        exact ⟨u, u', rfl, rfl, .inl e⟩
    · exact .inl (by omega)
end Haul
end
section
namespace L2
open PySem PySem.Spec PyProof.Rows
structure GI (mg : Str → Option Value) (x : Str) (v : Int) : Prop where
  ex : ∃ t, mg x = some (.int v t)
theorem pe_gi {X : Cx} {x : Str} {v : Int} {pos : Pos} (h : GI X.mg x v) (hg : Gl X x := by rfl) (hd : (x == ("__debug__" : Str)) = false := by decide) : PE X (.Name x pos) (tC (.int v)) := by
  obtain ⟨t, e⟩ := h.ex
  exact pe_glob (v := .int v) hg e ⟨t, rfl⟩ hd
structure Cal (P : Program) (w : World) (K : PySem.W.Frag) (mg : Str → Option Value) (base : Heap) (x : Str) (k : Nat) (ps : List Str) (sp : Sp) : Prop where
  ex : ∃ (f : Addr) (fd : FuncData), FnOk P w K mg base CX0 k f fd ps sp ∧ mg x = some (.ref f) ∧ PySem.W.keepIn K (.ref f) = true ∧ Binds K fd ps []
theorem pe_cal {X : Cx} {x : Str} {j k : Nat} {ps : List Str} {sp : Sp} {e : Expr} {es : List Expr} {t : TA} {p pos : Pos} (C : Cal X.prog X.w X.K X.mg X.base x j ps sp) (hr : Room k X.A) (ha : PA X (e :: es) t) (hj : j ≤ k := by decide) (hg : Gl X x := by rfl)
    (hdb : (x == ("__debug__" : Str)) = false := by decide) (he : starEach (e :: es) X.env = (false, eval e X.env) :: starEach es X.env := by rfl) (hpl : (backTo pos (starEach es X.env)).any (·.1) = false := by rfl) :
    PE X (.Call (.Name x p) (e :: es) [] pos) (tCall sp [] E0 t) := by
  obtain ⟨f, fd, F, hm, hk, hb⟩ := C.ex
  exact pe_call (F.mono hj) hr hg hm hk hb .nil pass0 ha hdb he hpl
structure MCal (P : Program) (w : World) (K : PySem.W.Frag) (mg : Str → Option Value) (base : Heap) (C : Addr) (m : Str) (k : Nat) (ps : List Str) (sp : Sp) : Prop where
  ex : ∃ (f : Addr) (fd : FuncData), FnOk P w K mg base CX0 k f fd ps sp ∧ Cls K C ∧ Meth K C m f ∧ Binds K fd ps []
end L2
end
section
namespace L2
open PySem PySem.Spec PyProof.Rows
section
variable {σ : St} {H : Hp} {Q : VK} {D : Ends} {K : PySem.W.Frag}
theorem i_mul {i j : Int} (c : CMul i j) (h : Q (.int (i * j)) H) : rI CMul (fun i j => .int (i * j)) (.int i) (.int j) H Q := ⟨i, j, rfl, rfl, c, h⟩
theorem i_eq {i j : Int} (h : Q (.bl (decide (i = j))) H) : rEq (.int i) (.int j) H Q := ⟨rfl, by rw [show decide (V.int i = V.int j) = decide (i = j) by rw [Bool.eq_iff_iff]; simp]; exact h⟩
theorem i_ne {i j : Int} (h : Q (.bl (decide (¬ i = j))) H) : rNe (.int i) (.int j) H Q := ⟨rfl, by rw [show (!decide (V.int i = V.int j)) = decide (¬ i = j) by rw [Bool.eq_iff_iff]; simp]; exact h⟩
theorem i_ite {c : Prop} [Decidable c] {A B : Prop} (h1 : c → A) (h2 : ¬ c → B) : if decide c = true then A else B := by
  by_cases h : c
  · rw [if_pos (decide_eq_true h)]; exact h1 h
  · rw [if_neg (by rw [decide_eq_true_iff]; exact h)]; exact h2 h
theorem i_iteN {c : Prop} [Decidable c] {A B : Prop} (h1 : ¬ c → A) (h2 : c → B) : if (!decide c) = true then A else B := by
  by_cases h : c
  · rw [if_neg (by simp [h])]; exact h2 h
  · rw [if_pos (by simp [h])]; exact h1 h
theorem i_iteF {A B : Prop} (h : B) : if false = true then A else B := by rw [if_neg (by decide)]; exact h
def rLst : List V → Hp → VK → Prop := fun xs H1 Q => xs.length ≤ sizeLine ∧ ∀ p, H1 p = none → Q (.ref p) (upd H1 p (.lst xs))
def rTup : List V → Hp → VK → Prop := fun xs H1 Q => xs.length ≤ sizeLine ∧ ∀ p, H1 p = none → Q (.ref p) (upd H1 p (.tup xs))
theorem i_lstv {xs : List V} (hz : xs.length ≤ 1000) (h : ∀ p, H p = none → Q (.ref p) (upd H p (.lst xs))) : rLst xs H Q := ⟨Nat.le_trans hz (by decide), h⟩
theorem i_tupv {xs : List V} (hz : xs.length ≤ 1000) (h : ∀ p, H p = none → Q (.ref p) (upd H p (.tup xs))) : rTup xs H Q := ⟨Nat.le_trans hz (by decide), h⟩
def rAbs : List V → Hp → VK → Prop := fun xs H Q => ∃ i, xs = [.int i] ∧ Q (.int (if i < 0 then -i else i)) H
def rMin2 : List V → Hp → VK → Prop := fun xs H Q => ∃ i j, xs = [.int i, .int j] ∧ Q (.int (if j < i then j else i)) H
def rMax2 : List V → Hp → VK → Prop := fun xs H Q => ∃ i j, xs = [.int i, .int j] ∧ Q (.int (if j > i then j else i)) H
def rLen (K : PySem.W.Frag) : List V → Hp → VK → Prop := fun xs H Q => ∃ p ys, xs = [.ref p] ∧ (SqL K H p ys ∨ SqT K H p ys) ∧ Q (.int ys.length) H
def rListOf (K : PySem.W.Frag) : List V → Hp → VK → Prop := fun xs H Q => ∃ p ys, xs = [.ref p] ∧ (SqL K H p ys ∨ SqT K H p ys) ∧ ∀ l, H l = none → Q (.ref l) (upd H l (.lst ys))
theorem i_abs {i : Int} (h : Q (.int (if i < 0 then -i else i)) H) : rAbs [.int i] H Q := ⟨i, rfl, h⟩
theorem i_min {i j : Int} (h : Q (.int (if j < i then j else i)) H) : rMin2 [.int i, .int j] H Q := ⟨i, j, rfl, h⟩
theorem i_max {i j : Int} (h : Q (.int (if j > i then j else i)) H) : rMax2 [.int i, .int j] H Q := ⟨i, j, rfl, h⟩
def IL (K : PySem.W.Frag) (H : Hp) (a : Addr) (xs : List Int) : Prop := SqL K H a (xs.map V.int)
theorem at_int {xs : List Int} {i : Int} (h0 : 0 ≤ i) (h1 : i < xs.length) : atI (xs.map V.int) i = some (.int (xs.getD i.toNat 0)) := by
  obtain ⟨j, rfl⟩ : ∃ j : Nat, i = (j : Int) := ⟨i.toNat, by omega⟩
  refine atI_nat ?_
  rw [Int.toNat_natCast, List.getElem?_map, List.getD_eq_getElem?_getD, List.getElem?_eq_getElem (by omega)]
  rfl
theorem i_ix {a : Addr} {xs : List Int} {i : Int} (hS : IL K H a xs) (h0 : 0 ≤ i) (h1 : i < xs.length) (h : Q (.int (xs.getD i.toNat 0)) H) : rIxL K (.ref a) (.int i) H Q := ⟨a, _, i, _, rfl, rfl, hS, at_int h0 h1, h⟩
theorem ixN_of {n : Nat} {i : Int} (h0 : 0 ≤ i) (h1 : i < n) : ixN n i = some i.toNat := by
  unfold ixN
  rw [if_pos h0, if_pos h1]
theorem i_set {a : Addr} {xs : List Int} {i v : Int} {R : Hp → Prop} (hS : H a = some (.lst (xs.map V.int))) (h0 : 0 ≤ i) (h1 : i < xs.length) (h : R (upd H a (.lst ((xs.set i.toNat v).map V.int)))) : rSetL (.ref a) (.int i) (.int v) H R :=
  ⟨a, _, i, _, rfl, rfl, hS, ixN_of h0 (by rw [List.length_map]; exact h1), by rw [List.map_set] at h; exact h⟩
theorem i_len {a : Addr} {xs : List Int} (hS : IL K H a xs) (h : Q (.int xs.length) H) : rLen K [.ref a] H Q := ⟨a, _, rfl, .inl hS, by rw [List.length_map]; exact h⟩
theorem i_lenL {a : Addr} {xs : List V} (hS : SqL K H a xs) (h : Q (.int xs.length) H) : rLen K [.ref a] H Q := ⟨a, _, rfl, .inl hS, h⟩
theorem i_listof {a : Addr} {xs : List Int} (hS : IL K H a xs) (h : ∀ l, H l = none → Q (.ref l) (upd H l (.lst (xs.map V.int)))) : rListOf K [.ref a] H Q := ⟨a, _, rfl, .inl hS, h⟩
theorem IL.of {a : Addr} {xs : List Int} (h : H a = some (.lst (xs.map V.int))) : IL K H a xs := SqL.of h
theorem IL.same {H' : Hp} {a : Addr} {xs : List Int} (h : IL K H a xs) (e : Same H H') : IL K H' a xs := e.seq h
theorem Same.rfl {H : Hp} : Same H H := fun _ _ h => h
theorem Same.new {H H' : Hp} (e : Same H H') {l : Addr} {o : HO} (h : H' l = Option.none) : Same H (upd H' l o) := fun b u hb => by
  rw [upd_ne (ne_of_none (e _ _ hb) h)]
  exact e _ _ hb
theorem Same.re {H H' : Hp} (e : Same H H') {l : Addr} {o : HO} (h : H l = Option.none) : Same H (upd H' l o) := fun b u hb => by
  rw [upd_ne (ne_of_none hb h)]
  exact e _ _ hb
end
end L2
end
section
namespace L2
open PySem PySem.Spec PyProof.Rows
section
variable {X : Cx}
theorem vals_items : ∀ {ns : List Int} {its : List Value}, Vals (ns.map V.int) its → ∃ ps : List (Int × Tok), its = ps.map (fun p => Value.int p.1 p.2) ∧ ps.map (·.1) = ns
  | [], _, .nil => ⟨[], rfl, rfl⟩
  | n :: ns, _, .cons ⟨t, e⟩ r => by
    obtain ⟨ps, e1, e2⟩ := vals_items r
    exact ⟨(n, t) :: ps, by rw [e, e1]; rfl, by rw [← e2]; rfl⟩
theorem il_items {pins : List (Addr × Obj)} {σ : St} {H : Hp} {s : Shared} {a : Addr} {ns : List Int} (I : Inv X pins σ H s) (h : IL X.K H a ns) : ∃ xs : Array (Int × Tok), s.heap.IsList a (intItems xs) ∧ xs.toList.map (·.1) = ns := by
  obtain ⟨its, r, pl, _⟩ := I.list h
  obtain ⟨ps, e1, e2⟩ := vals_items r
  refine ⟨ps.toArray, ?_, by simpa using e2⟩
  have := pl.isList
  rw [e1] at this
  simpa [intItems] using this
def rSumI (K : PySem.W.Frag) : List V → Hp → VK → Prop := fun xs H Q => ∃ p ns, xs = [.ref p] ∧ IL K H p ns ∧ Q (.int ns.sum) H
def rMaxL (K : PySem.W.Frag) : List V → Hp → VK → Prop := fun xs H Q => ∃ p ns, xs = [.ref p] ∧ IL K H p ns ∧ 0 < ns.length ∧ ∀ M, M ∈ ns → (∀ a, a ∈ ns → a ≤ M) → Q (.int M) H
def rMinL (K : PySem.W.Frag) : List V → Hp → VK → Prop := fun xs H Q => ∃ p ns, xs = [.ref p] ∧ IL K H p ns ∧ 0 < ns.length ∧ ∀ M, M ∈ ns → (∀ a, a ∈ ns → M ≤ a) → Q (.int M) H
theorem i_sum {K : PySem.W.Frag} {a : Addr} {ns : List Int} {H : Hp} {Q : VK} (h1 : IL K H a ns) (h : Q (.int ns.sum) H) : rSumI K [.ref a] H Q := ⟨a, ns, rfl, h1, h⟩
theorem i_maxL {K : PySem.W.Frag} {a : Addr} {ns : List Int} {H : Hp} {Q : VK} (h1 : IL K H a ns) (h2 : 0 < ns.length) (h : ∀ M, M ∈ ns → (∀ a, a ∈ ns → a ≤ M) → Q (.int M) H) : rMaxL K [.ref a] H Q := ⟨a, ns, rfl, h1, h2, h⟩
theorem i_minL {K : PySem.W.Frag} {a : Addr} {ns : List Int} {H : Hp} {Q : VK} (h1 : IL K H a ns) (h2 : 0 < ns.length) (h : ∀ M, M ∈ ns → (∀ a, a ∈ ns → M ≤ a) → Q (.int M) H) : rMinL K [.ref a] H Q := ⟨a, ns, rfl, h1, h2, h⟩
theorem call_absR : CallR X (.builtin "abs") rAbs := call_abs
theorem call_minR (hc : X.calm = true) : CallR X (.builtin "min") rMin2 := call_min2 hc
theorem call_maxR (hc : X.calm = true) : CallR X (.builtin "max") rMax2 := call_max2 hc
theorem call_lenR {K : PySem.W.Frag} (e : X.K = K) : CallR X (.builtin "len") (rLen K) := e ▸ call_len_seq
theorem call_listR {K : PySem.W.Frag} (e : X.K = K) : CallR X (.type "list") (rListOf K) := e ▸ call_list_of
theorem call_sum (hc : X.calm = true) : CallR X (.builtin "sum") (rSumI X.K) := by
  intro pins s σ H xs us Q I r h
  obtain ⟨p, ns, rfl, hq, q⟩ := h
  obtain ⟨u, rfl, rx⟩ := vals1 r
  cases rx
  obtain ⟨ys, hl, e⟩ := il_items I hq
  refine sum_intListG (I.ok.hd hc) hl fun h' tk t' k => ⟨.int ns.sum, H, I.kept k, ?_, q⟩
  rw [preSum_eq, List.take_of_length_le (by simp), e]
  exact ⟨_, rfl⟩
theorem call_max_list (hc : X.calm = true) : CallR X (.builtin "max") (rMaxL X.K) := by
  intro pins s σ H xs us Q I r h
  obtain ⟨p, ns, rfl, hq, hne, q⟩ := h
  obtain ⟨u, rfl, rx⟩ := vals1 r
  cases rx
  obtain ⟨ys, hl, hns⟩ := il_items I hq
  have hsz : 0 < ys.size := by
    have h3 := hne
    rw [← hns, List.length_map, Array.length_toList] at h3
    exact h3
  refine max_intList (I.ok.hd hc) hl hsz fun v h' tk hv hk => ?_
  obtain ⟨t, rfl⟩ := intItems_at hv
  obtain ⟨h1, h2⟩ := argBest_gt (numAt ys) (ys.size - 1)
  refine ⟨.int (numAt ys (argBest (fun i j => decide (numAt ys i > numAt ys j)) (ys.size - 1))), H, I.kept hk, ⟨_, rfl⟩, q _ ?_ fun a ha => ?_⟩
  · rw [← hns, numAt_eq]; exact getD_mem (by rw [List.length_map, Array.length_toList]; omega)
  · rw [← hns] at ha
    obtain ⟨j, hj, rfl⟩ := mem_getD ha
    rw [List.length_map, Array.length_toList] at hj
    rw [← numAt_eq]; exact h2 j (by omega)
theorem call_min_list (hc : X.calm = true) : CallR X (.builtin "min") (rMinL X.K) := by
  intro pins s σ H xs us Q I r h
  obtain ⟨p, ns, rfl, hq, hne, q⟩ := h
  obtain ⟨u, rfl, rx⟩ := vals1 r
  cases rx
  obtain ⟨ys, hl, hns⟩ := il_items I hq
  have hsz : 0 < ys.size := by
    have h3 := hne
    rw [← hns, List.length_map, Array.length_toList] at h3
    exact h3
  refine min_intList (I.ok.hd hc) hl hsz fun v h' tk hv hk => ?_
  obtain ⟨t, rfl⟩ := intItems_at hv
  obtain ⟨h1, h2⟩ := argBest_lt (numAt ys) (ys.size - 1)
  refine ⟨.int (numAt ys (argBest (fun i j => decide (numAt ys i < numAt ys j)) (ys.size - 1))), H, I.kept hk, ⟨_, rfl⟩, q _ ?_ fun a ha => ?_⟩
  · rw [← hns, numAt_eq]; exact getD_mem (by rw [List.length_map, Array.length_toList]; omega)
  · rw [← hns] at ha
    obtain ⟨j, hj, rfl⟩ := mem_getD ha
    rw [List.length_map, Array.length_toList] at hj
    rw [← numAt_eq]; exact h2 j (by omega)
theorem boot_sum0 : bootBuiltins "sum" = some (.builtin "sum") := by decide +kernel
theorem boot_max0 : bootBuiltins "max" = some (.builtin "max") := by decide +kernel
theorem boot_min0 : bootBuiltins "min" = some (.builtin "min") := by decide +kernel
theorem boot_abs0 : bootBuiltins "abs" = some (.builtin "abs") := by decide +kernel
theorem boot_len0 : bootBuiltins "len" = some (.builtin "len") := by decide +kernel
theorem boot_list0 : bootBuiltins "list" = some (.type "list") := by decide +kernel
theorem get_list : PGet X (rIxL X.K) := by
  intro pins s σ H x y v u Q I rx ry h
  obtain ⟨p, xs, i, z, rfl, rfl, hq, he, q⟩ := h
  cases rx
  obtain ⟨t, rfl⟩ := ry
  obtain ⟨its, r, pl, hz⟩ := I.list hq
  obtain ⟨j, h1, h2, h3, h4, h5⟩ := atI_get he
  obtain ⟨w, ew, rw'⟩ := r.get h2
  have hl := r.length
  have hn := line63
  have fin : EP X pins σ Q w s := ⟨z, H, I, rw', q⟩
  by_cases h0 : 0 ≤ i
  · have hj : i.toNat = j := by
      rw [seqIndex_of h0 h5] at h1
      exact Option.some.inj h1
    exact wpAny_getItem_list pl.isList h0 (by omega) (by rw [hj]; simpa using ew) fin
  · have hj : (i + (its.toArray.size : Int)).toNat = j := by
      rw [seqIndex_neg (by omega) h4] at h1
      rw [List.size_toArray, ← hl]
      exact Option.some.inj h1
    exact wpAny_getItem_list_neg pl.isList (by omega) (by rw [List.size_toArray, ← hl]; exact h4) (by omega) (by rw [hj]; simpa using ew) fin
def rExtendT : V → List V → Hp → VK → Prop := fun x vs H Q => ∃ l b xs zs, x = .ref l ∧ vs = [.ref b] ∧ H l = some (.lst xs) ∧ H b = some (.tup zs) ∧ xs.length + zs.length ≤ sizeLine ∧ Q .non (upd H l (.lst (xs ++ zs)))
def tCallV (P : Program) (w : World) (K : PySem.W.Frag) (mg : Str → Option Value) (base : Heap) (k : Nat) (tv : TE) (t : TA) : TE := fun σ H Q => tv σ H fun x H1 => ∃ (f : Addr) (fd : FuncData) (ps : List Str) (sp : Sp), x = .ref f ∧ FnOk P w K mg base CX0 k f fd ps sp ∧ PySem.W.keepIn K (.ref f) = true ∧ Binds K fd ps [] ∧
  t σ H1 fun vs H2 => sp (vs ++ []) H2 Q E0
theorem pe_callV {x : Str} {k : Nat} {tv : TE} {e : Expr} {es : List Expr} {t : TA} {p pos : Pos} (hr : Room k X.A) (hv : PE X (.Name x p) tv) (ha : PA X (e :: es) t)
    (he : starEach (e :: es) X.env = (false, eval e X.env) :: starEach es X.env := by rfl) (hpl : (backTo pos (starEach es X.env)).any (·.1) = false := by rfl) :
    PE X (.Call (.Name x p) (e :: es) [] pos) (tCallV X.prog X.w X.K X.mg X.base k tv t) := by
  intro pins s σ H Q I h
  refine wpAny_Call_Name_kw (thn (hv pins s σ H _ I h) fun u s1 ⟨y, H1, I1, r1, q1⟩ => ?_)
  obtain ⟨f, fd, ps, sp, rfl, F, hk, hb, q⟩ := q1
  cases r1
  refine PySem.W.callWith_K (h₀ := X.base) I.ok.mod.kin hk (thn (ha pos pins s1 σ H1 _ I1 q) fun us s2 ⟨vs, H2, I2, r, q2⟩ => ⟨I2.kIn, ?_⟩) he hpl
  exact run_fn F hr hb .nil pass0 I2 r q2
theorem pe_mcal {C : Addr} {m : Str} {j k : Nat} {ps : List Str} {sp : Sp} {o e : Expr} {es : List Expr} {to : TE} {t : TA} {apos pos : Pos} {pl : Sem Bool} (M : MCal X.prog X.w X.K X.mg X.base C m j ps sp) (hr : Room k X.A) (ho : PE X o to) (ha : PA X (e :: es) t) (hj : j ≤ k := by decide)
    (hst : starEach (e :: es) X.env = (false, eval e X.env) :: starEach es X.env := by rfl) (hpl : (backTo pos (starEach es X.env)).any (·.1) = false := by rfl)
    (ht : eval (.Call (.Attribute o m apos) (e :: es) [] pos) X.env = (do
      let ov ← eval o X.env
      standAt apos.atName
      let (f, first) ← holding [ov] (getMethod ov m pl)
      callWith pos f first (backTo pos (starEach (e :: es) X.env)) (backToKw pos (keywordEach [] X.env))) := by rfl) :
    PE X (.Call (.Attribute o m apos) (e :: es) [] pos) (tMeth C m sp [] E0 to t) := by
  obtain ⟨f, fd, F, c, hm, hb⟩ := M.ex
  exact pe_meth ho c hm (F.mono hj) hr hb .nil pass0 ha hst hpl ht
theorem pe_mcal0 {C : Addr} {m : Str} {j k : Nat} {ps : List Str} {sp : Sp} {o : Expr} {to : TE} {apos pos : Pos} {pl : Sem Bool} (M : MCal X.prog X.w X.K X.mg X.base C m j ps sp) (hr : Room k X.A) (ho : PE X o to) (hj : j ≤ k := by decide)
    (ht : eval (.Call (.Attribute o m apos) [] [] pos) X.env = (do
      let ov ← eval o X.env
      standAt apos.atName
      let (f, first) ← holding [ov] (getMethod ov m pl)
      callWith pos f first (backTo pos (starEach [] X.env)) (backToKw pos (keywordEach [] X.env))) := by rfl) :
    PE X (.Call (.Attribute o m apos) [] [] pos) (tMeth C m sp [] E0 to tNil) := by
  obtain ⟨f, fd, F, c, hm, hb⟩ := M.ex
  exact pe_meth0 ho c hm (F.mono hj) hr hb .nil pass0 ht
end
section
variable {X : Cx}
theorem call_sumR {K : PySem.W.Frag} (hc : X.calm = true) (e : X.K = K) : CallR X (.builtin "sum") (rSumI K) := e ▸ call_sum hc
theorem call_maxLR {K : PySem.W.Frag} (hc : X.calm = true) (e : X.K = K) : CallR X (.builtin "max") (rMaxL K) := e ▸ call_max_list hc
theorem call_minLR {K : PySem.W.Frag} (hc : X.calm = true) (e : X.K = K) : CallR X (.builtin "min") (rMinL K) := e ▸ call_min_list hc
end
theorem lc_go {J : It} {g : TG} {te : TE} {vs : List Nat} {σ : St} {H : Hp} {Q : VK} {n : Nat} (F : Nat → Int) (hn : n ≤ sizeLine)
    (hgo : ∀ i H', i < n → Same H H' → J.go i H') (hst : ∀ H', Same H H' → J.stop n H')
    (hs : ∀ i H' x H'', i < n → Same H H' → J.yld i H' x H'' → Same H' H'' ∧ ∀ R : VK, (∀ H4, Same H'' H4 → R (.int (F i)) H4) → g x (wipe σ vs) H'' fun σ2 H2 => wipe σ2 vs = wipe σ vs ∧ te σ2 H2 R)
    (hd : ∀ (H' : Hp) (D : Addr), Same H H' → H D = none → H' D = some (.lst (((List.range n).map F).map V.int)) → Q (.ref D) H') :
    ∀ D, H D = none → ∃ W : Nat → Nat → Hp → Prop, (∃ m, W 0 m (upd H D (.lst []))) ∧ ∀ i m H, W i m H →
      (J.stop i H ∧ Q (.ref D) H) ∨ (J.go i H ∧ ∃ Nx : Hp → Prop, (∀ H', Nx H' → ∃ m', m' < m ∧ W (i + 1) m' H') ∧ ∀ x H', J.yld i H x H' → g x (wipe σ vs) H' fun σ2 H2 => wipe σ2 vs = wipe σ vs ∧ tYes σ2 H2 fun b H3 =>
        if b = true then te σ2 H3 fun y H4 => ∃ acc, H4 D = some (.lst acc) ∧ acc.length < sizeLine ∧ Nx (upd H4 D (.lst (acc ++ [y]))) else Nx H3) := by
  intro D hD
  refine ⟨fun i m H' => m = n - i ∧ i ≤ n ∧ Same H H' ∧ H' D = some (.lst (((List.range i).map F).map V.int)), ⟨n, by simp, Nat.zero_le _, Same.rfl.new hD, upd_same⟩, ?_⟩
  rintro i m H1 ⟨rfl, hi, hS, hL⟩
  by_cases hlt : i < n
  · refine .inr ⟨hgo i H1 hlt hS, fun H' => Same H H' ∧ H' D = some (.lst (((List.range (i + 1)).map F).map V.int)), fun H' p => ⟨n - (i + 1), by omega, rfl, hlt, p.1, p.2⟩, fun x H' y => ?_⟩
    obtain ⟨s1, q⟩ := hs i H1 x H' hlt hS y
    refine q (fun y H4 => ∃ acc, H4 D = some (.lst acc) ∧ acc.length < sizeLine ∧ Same H (upd H4 D (.lst (acc ++ [y]))) ∧ upd H4 D (.lst (acc ++ [y])) D = some (.lst (((List.range (i + 1)).map F).map V.int))) fun H4 s4 => ?_
    refine ⟨_, s4 _ _ (s1 _ _ hL), by simp only [List.length_map, List.length_range]; omega, ?_, ?_⟩
    · exact ((hS.trans s1).trans s4).re hD
    · rw [upd_same, List.range_succ, List.map_append, List.map_append]
      all_goals rfl
  · have e : i = n := by omega
    subst e
    exact .inl ⟨hst H1 hS, hd H1 D hS hD hL⟩
def rRng1 (R : It → Hp → Prop) : List V → Hp → Prop := fun vs H1 => ∃ j : Int, vs = [.int j] ∧ -(2 ^ 62) ≤ j ∧ j < 2 ^ 62 ∧ R (Itr 0 j.toNat) H1
def rRng2 (R : It → Hp → Prop) : List V → Hp → Prop := fun vs H1 => ∃ i j : Int, vs = [.int i, .int j] ∧ (-(2 ^ 62) ≤ i ∧ i < 2 ^ 62 ∧ -(2 ^ 62) ≤ j ∧ j < 2 ^ 62) ∧ R (Itr i (j - i).toNat) H1
def rRng3 (R : It → Hp → Prop) : List V → Hp → Prop := fun vs H1 => ∃ (i j c : Int) (n : Nat), vs = [.int i, .int j, .int c] ∧ RgC i j c n ∧ R (Itc i c n) H1
theorem i_rng1v {j : Int} {H : Hp} {R : It → Hp → Prop} (h1 : -(2 ^ 62) ≤ j) (h2 : j < 2 ^ 62) (h : R (Itr 0 j.toNat) H) : rRng1 R [.int j] H := ⟨j, rfl, h1, h2, h⟩
theorem i_rng2v {i j : Int} {H : Hp} {R : It → Hp → Prop} (h1 : -(2 ^ 62) ≤ i ∧ i < 2 ^ 62 ∧ -(2 ^ 62) ≤ j ∧ j < 2 ^ 62) (h : R (Itr i (j - i).toNat) H) : rRng2 R [.int i, .int j] H := ⟨i, j, rfl, h1, h⟩
theorem i_rng3v {i j c : Int} {n : Nat} {H : Hp} {R : It → Hp → Prop} (h1 : RgC i j c n) (h : R (Itc i c n) H) : rRng3 R [.int i, .int j, .int c] H := ⟨i, j, c, n, rfl, h1, h⟩
theorem i_rep {l : Addr} {k : Int} {v : V} {H : Hp} {Q : VK} (hH : H l = some (.lst [v])) (h0 : 0 ≤ k) (h1 : k ≤ 100000) (h : ∀ p, H p = none → Q (.ref p) (upd H p (.lst (List.replicate k.toNat v)))) : rRep (.ref l) (.int k) H Q := by
  refine ⟨l, k, _, rfl, rfl, hH, by omega, by omega, ?_, fun p hp => ?_⟩
  · have : 100000 ≤ sizeLine := by decide
    rw [List.length_singleton]
    omega
  · have e : (List.replicate k.toNat [v]).flatten = List.replicate k.toNat v := by
      generalize k.toNat = n
      induction n with
      | zero => rfl
      | succ n ih => rw [List.replicate_succ, List.flatten_cons, ih, List.replicate_succ]; rfl
    rw [e]
    exact h p hp
theorem ty_list {K : PySem.W.Frag} {l : Addr} {xs : List V} {H : Hp} (h : H l = some (.lst xs)) : tyV K "list" (.ref l) H := .inl ⟨rfl, _, SqL.of h⟩
theorem i_app {l : Addr} {xs : List V} {y : V} {H : Hp} {Q : VK} (h : H l = some (.lst xs)) (hz : xs.length < sizeLine) (q : Q .non (upd H l (.lst (xs ++ [y])))) : rAppend (.ref l) [y] H Q := ⟨l, xs, y, rfl, rfl, h, hz, q⟩
theorem i_rev {l : Addr} {xs : List V} {H : Hp} {Q : VK} (h : H l = some (.lst xs)) (q : Q .non (upd H l (.lst xs.reverse))) : rReverse (.ref l) [] H Q := ⟨l, xs, rfl, rfl, h, q⟩
theorem i_ixR {K : PySem.W.Frag} {a : Addr} {as : List Addr} {i : Int} {b : Addr} {H : Hp} {Q : VK} (hS : H a = some (.lst (as.map V.ref))) (h0 : 0 ≤ i) (hb : as[i.toNat]? = some b) (h : Q (.ref b) H) : rIxL K (.ref a) (.int i) H Q := by
  refine ⟨a, _, i, .ref b, rfl, rfl, SqL.of hS, ?_, h⟩
  obtain ⟨j, rfl⟩ : ∃ j : Nat, i = (j : Int) := ⟨i.toNat, by omega⟩
  rw [Int.toNat_natCast] at hb
  refine atI_nat ?_
  rw [List.getElem?_map, hb]
  rfl
theorem i_gtup {K : PySem.W.Frag} {n : Nat} {t : TGs} {T : Addr} {xs : List V} {σ : St} {H : Hp} {R : St → Hp → Prop} (h1 : SqT K H T xs) (h2 : xs.length = n) (h : t xs σ H R) : gTup K n t (.ref T) σ H R := ⟨T, xs, rfl, h1, h2, h⟩
end L2
end
section
namespace L2
open PySem PySem.Spec PyProof.Rows
def ME (t : TE) : Prop := ∀ (σ : L2.St) (H : Hp) (Q Q' : VK), (∀ x H1, Q x H1 → Q' x H1) → t σ H Q → t σ H Q'
def MT (t : TT) : Prop := ∀ (σ : L2.St) (H : Hp) (Q Q' : Bool → Hp → Prop), (∀ x H1, Q x H1 → Q' x H1) → t σ H Q → t σ H Q'
def MA (t : TA) : Prop := ∀ (σ : L2.St) (H : Hp) (Q Q' : List V → Hp → Prop), (∀ x H1, Q x H1 → Q' x H1) → t σ H Q → t σ H Q'
def MR (r : R2) : Prop := ∀ (x y : V) (H : Hp) (Q Q' : VK), (∀ x H1, Q x H1 → Q' x H1) → r x y H Q → r x y H Q'
def ML (r : List V → Hp → VK → Prop) : Prop := ∀ (x : List V) (H : Hp) (Q Q' : VK), (∀ x H1, Q x H1 → Q' x H1) → r x H Q → r x H Q'
def MS (sp : Sp) : Prop := ∀ (vs : List V) (H : Hp) (E : XK) (Q Q' : VK), (∀ x H1, Q x H1 → Q' x H1) → sp vs H Q E → sp vs H Q' E
section
variable {ta tb tc : TE} {t u : TT} {a b : TA} {r r' : R2} {K : PySem.W.Frag}
theorem me_c {v : V} : ME (tC v) := fun σ H Q Q' h q => h _ _ q
theorem me_op (h1 : ME ta) (h2 : ME tb) (h3 : MR r) : ME (tOp r ta tb) := fun σ H Q Q' h q => h1 σ H _ _ (fun x H1 q => h2 σ H1 _ _ (fun y H2 q => h3 x y H2 _ _ h q) q) q
theorem me_fld {f : Str} (h1 : ME ta) : ME (tFld K ta f) := fun σ H Q Q' h q => h1 σ H _ _ (fun x H1 ⟨a, C, dx, fs, v, e1, e2, e3, e4, e5, q⟩ => ⟨a, C, dx, fs, v, e1, e2, e3, e4, e5, h _ _ q⟩) q
theorem me_cb {r : List V → Hp → VK → Prop} (h1 : MA a) (h2 : ML r) : ME (tCB r a) := fun σ H Q Q' h q => h1 σ H _ _ (fun x H1 q => h2 x H1 _ _ h q) q
theorem me_call {sp : Sp} {E : XK} (h1 : MA a) (h2 : MS sp) : ME (tCall sp [] E a) := fun σ H Q Q' h q => h1 σ H _ _ (fun x H1 q => h2 _ H1 _ _ _ h q) q
theorem ma_nil : MA tNil := fun σ H Q Q' h q => h _ _ q
theorem ma_cons (h1 : ME ta) (h2 : MA a) : MA (tCons ta a) := fun σ H Q Q' h q => h1 σ H _ _ (fun x H1 q => h2 σ H1 _ _ (fun y H2 q => h _ _ q) q) q
theorem mt_test (h1 : ME ta) : MT (tTest ta) := fun σ H Q Q' h q => h1 σ H _ _ (fun x H1 ⟨k, e, q⟩ => ⟨k, e, h _ _ q⟩) q
theorem ite_mono {c : Prop} [Decidable c] {A B A' B' : Prop} (h1 : A → A') (h2 : B → B') (h : if c then A else B) : if c then A' else B' := by
  split
  · rw [if_pos (by assumption)] at h; exact h1 h
  · rw [if_neg (by assumption)] at h; exact h2 h
theorem mt_and (h1 : MT t) (h2 : MT u) : MT (tAnd t u) := fun σ H Q Q' h q => h1 σ H _ _ (fun x H1 q => ite_mono (fun q => h2 σ H1 _ _ h q) (fun q => h _ _ q) q) q
theorem mr_ixL : MR (rIxL K) := fun x y H Q Q' h ⟨p, xs, i, v, e1, e2, e3, e4, q⟩ => ⟨p, xs, i, v, e1, e2, e3, e4, h _ _ q⟩
theorem ml_len : ML (rLen K) := fun x H Q Q' h ⟨p, ys, e, s, q⟩ => ⟨p, ys, e, s, h _ _ q⟩
end
end L2
end
section
namespace L2
open PySem PySem.Spec PyProof.Rows
open PySem.AutoSeq1
theorem extend_tuple_gen (a b : Addr) (xs ys : Array Value) (m k : Nat) (dt : Option Addr) (so : Array (Option Value)) (short : ¬(!xs.isEmpty && Builtin.List.listTooLong (xs.size + ys.size)) = true) (fit : xs.size ≤ sizeLine) (both : xs.size + ys.size ≤ sizeLine + 1) :
    Meets (Builtin.«list.extend» ⟨[.ref a, .ref b], []⟩) (fun _ Z st => st.heap.get? a = some { cls := .type "list", dict := none, data := .seq xs m, slots := #[] } ∧ st.heap.get? b = some { cls := .type "tuple", dict := dt, data := .seq ys k, slots := so } ∧ Z (.ok (.ret Value.none)) { st with heap := st.heap.update a (Obj.mapSeq fun q => q ++ ys), toks := st.toks }) := by
  refine .of_wp fun prog w A Z st want => ?_
  obtain ⟨hp, gs, dr, tk, os⟩ := st
  obtain ⟨ha, hb, want⟩ := want
  have t1 := idx_int
  have t2 := AutoSeq1.sub_tuple_tuple
  have t3 := AutoSeq1.sub_list_list
  have t4 := AutoSeq1.sub_tuple_list
  have t5 := AutoSeq1.sub_list_tuple
  have joined : (xs ++ ys).size ≤ sizeLine + 1 := (Array.size_append (xs := xs) (ys := ys)) ▸ both
  wp_walk using (wpAny_updateSeq ha rfl (hz := fit) (_hz' := joined)), wpAny_loadPart' ha, wpAny_loadPart' hb
  exact ⟨_, rfl, want⟩
section
variable {X : Cx}
theorem mt_extendT : MtM X "list.extend" rExtendT := by
  intro pins s σ H x vs v us Q I rx rv h
  obtain ⟨l, b, xs, zs, rfl, rfl, hH, hB, hz, q⟩ := h
  cases rx
  obtain ⟨u, rfl, ru⟩ := rv.one
  cases ru
  obtain ⟨z, its, n, r, hl, e⟩ := I.lstM hH
  obtain ⟨its2, r2, ⟨o2, e2, hc2, n2, hd2⟩, z2⟩ := I.tuple (SqT.of hB)
  have hl2 := r2.length
  obtain ⟨cls, dict, data, slots⟩ := o2
  dsimp only at hc2 hd2
  subst hc2 hd2
  have hsz : its.toArray.size + its2.toArray.size ≤ sizeLine := by rw [List.size_toArray, List.size_toArray]; omega
  have hlong : ¬ (!its.toArray.isEmpty && Builtin.List.listTooLong (its.toArray.size + its2.toArray.size)) = true := by
    rw [notLongL hsz, Bool.and_false]
    exact Bool.false_ne_true
  refine call_meets F.slot_list_extend ⟨_, e, rfl⟩ F.entry_list_extend (F.args_list_extend_2 _ _)
    (extend_tuple_gen l b its.toArray its2.toArray n n2 dict slots hlong (by rw [List.size_toArray]; omega) (by omega)) ⟨e, e2, ?_⟩
  refine ⟨.non, _, I.lset (its' := its ++ its2) hH e (by simp) (r.append r2) ?_, rfl, q⟩
  rw [List.length_append]
  omega
theorem i_extT {l b : Addr} {xs zs : List V} {H : Hp} {Q : VK} (h1 : H l = some (.lst xs)) (h2 : H b = some (.tup zs)) (hz : xs.length + zs.length ≤ 100000) (q : Q .non (upd H l (.lst (xs ++ zs)))) : rExtendT (.ref l) [.ref b] H Q := ⟨l, b, xs, zs, rfl, rfl, h1, h2, Nat.le_trans hz (by decide), q⟩
theorem i_ext {l b : Addr} {xs zs : List V} {H : Hp} {Q : VK} (h1 : H l = some (.lst xs)) (h2 : H b = some (.lst zs)) (hz : xs.length + zs.length ≤ 100000) (q : Q .non (upd H l (.lst (xs ++ zs)))) : rExtend (.ref l) [.ref b] H Q := ⟨l, b, xs, zs, rfl, rfl, h1, h2, Nat.le_trans hz (by decide), q⟩
end
end L2
end
section
namespace L2
open PySem PySem.Spec PyProof.Rows
section
variable {X : Cx}
theorem PE.imp {e : Expr} {t t' : TE} (h : PE X e t) (w : ∀ σ H Q, t' σ H Q → t σ H Q) : PE X e t' := fun pins s σ H Q I q => h pins s σ H Q I (w σ H Q q)
theorem OpR.imp {f : Value → Value → Sem Value} {r r' : R2} (h : OpR X f r) (w : ∀ x y H Q, r' x y H Q → r x y H Q) : OpR X f r' := fun pins s σ H x y v u Q I rx ry q => h pins s σ H x y v u Q I rx ry (w x y H Q q)
def cVar (i : Nat) : TE := fun σ H Q => match σ[i]? with
  | some (some v) => Q v H
  | _ => False
def cI0 (g : Int → Int → V) : R2 := fun x y H Q => match x, y with
  | .int i, .int j => Q (g i j) H
  | _, _ => False
def cTest (t : TE) : TT := fun σ H Q => t σ H fun x H' => match x with
  | .bl k => Q k H'
  | _ => False
theorem cv (i : Nat) {x : Str} {pos : Pos} (hN : X.N[i]? = some x := by rfl) (hv : Vis X.env.scope x := by first | exact Or.inl rfl | exact Or.inr (Or.inl rfl) | exact Or.inr (Or.inr rfl)) (hd : (x == ("__debug__" : Str)) = false := by decide)
    (hcd : (x == ("__classdict__" : Str)) = false := by decide) : PE X (.Name x pos) (cVar i) := (pv i hN hv hd hcd).imp fun σ H Q q => by
  unfold cVar at q
  split at q
  · exact ⟨_, by assumption, q⟩
  · exact q.elim
theorem c_I0 {f : Value → Value → Sem Value} {g : Int → Int → V} (h : OpR X f (rI0 g)) : OpR X f (cI0 g) := h.imp fun x y H Q q => by
  unfold cI0 at q
  split at q
  · exact ⟨_, _, rfl, rfl, q⟩
  · exact q.elim
theorem cTest_eq (t : TE) : cTest t = tTest t := by
  funext σ H Q
  unfold cTest tTest
  congr 1
  funext x H'
  cases x <;> simp
theorem ct_cmpR {op : CmpOp} {r : R2} {a b : Expr} {ta tb : TE} {pos : Pos} (ho : OpR X (compareOp op) r) (ha : PE X a ta) (hb : PE X b tb) (hm : behindInMarks op b = false) : PT X (.Compare a [op] [b] pos) (cTest (tOp r ta tb)) := by
  rw [cTest_eq]
  exact pt_cmpR ho ha hb hm
def cEq : R2 := fun x y H Q => match x, y with
  | .int i, .int j => Q (.bl (decide (i = j))) H
  | _, _ => False
theorem c_eq : OpR X (compareOp .Eq) cEq := op_eq.imp fun x y H Q q => by
  unfold cEq at q
  split at q
  · exact i_eq q
  · exact q.elim
@[irreducible] def rFldC (K : PySem.W.Frag) (f : Str) : V → Hp → VK → Prop := fun x H1 Q => ∃ a C dx fs v, x = .ref a ∧ H1 a = some (.ins C dx fs) ∧ Cls K C ∧ NoAttr K C f ∧ fs.lookup f = some v ∧ Q v H1
def cFld (K : PySem.W.Frag) (ta : TE) (f : Str) : TE := fun σ H Q => ta σ H fun x H1 => rFldC K f x H1 Q
theorem cFld_eq (K : PySem.W.Frag) (ta : TE) (f : Str) : cFld K ta f = tFld K ta f := by
  unfold cFld rFldC tFld
  rfl
theorem ce_fld {K : PySem.W.Frag} (e0 : X.K = K) {e : Expr} {f : Str} {ta : TE} {pos : Pos} (he : PE X e ta) (hb : attributeBase e f X.env (eval e X.env) = eval e X.env) : PE X (.Attribute e f pos) (cFld K ta f) := by
  rw [cFld_eq]
  exact e0 ▸ pe_fld he hb
@[irreducible] def rIxC (K : PySem.W.Frag) : R2 := rIxL K
theorem rIxC_eq (K : PySem.W.Frag) : rIxC K = rIxL K := by
  unfold rIxC
  rfl
theorem c_ix {K : PySem.W.Frag} (e : X.K = K) : IxR X (rIxC K) := by
  rw [rIxC_eq]
  exact e ▸ ix_list
@[irreducible] def rLstC : List V → Hp → VK → Prop := rLst
theorem rLstC_eq : rLstC = rLst := by
  unfold rLstC
  rfl
def cLst (t : TA) : TE := fun σ H Q => t σ H fun xs H1 => rLstC xs H1 Q
theorem ce_lst {es : List Expr} {t : TA} {pos : Pos} (h : PA X es t) : PE X (.List es pos) (cLst t) := by
  have e : cLst t = tLst t := by
    unfold cLst
    rw [rLstC_eq]
    rfl
  rw [e]
  exact pe_lst h
def rIte (b : Bool) (A B : Prop) : Prop := match b with
  | true => A
  | false => B
theorem rIte_eq (b : Bool) (A B : Prop) : rIte b A B = if b = true then A else B := by cases b <;> rfl
def cIfS (c : TT) (t u : TS) : TS := fun D σ H => c σ H fun b H1 => rIte b (t D σ H1) (u D σ H1)
theorem cs_if {c : Expr} {a b : List Stmt} {tc : TT} {t u : TS} {pos : Pos} (hc : PT X c tc) (ha : PSs X a t) (hb : PSs X b u) : PS X (.If c a b pos) (cIfS tc t u) := by
  have e : cIfS tc t u = tIfS tc t u := by
    unfold cIfS tIfS
    simp only [rIte_eq]
  rw [e]
  exact ps_if hc ha hb
theorem ci_ite {c : Prop} [Decidable c] {A B : Prop} (h1 : c → A) (h2 : ¬ c → B) : rIte (decide c) A B := by
  rw [rIte_eq]
  exact i_ite h1 h2
theorem ci_ix {K : PySem.W.Frag} {a : Addr} {xs : List Int} {i : Int} {H : Hp} {Q : VK} (hS : IL K H a xs) (h0 : 0 ≤ i) (h1 : i < xs.length) (h : Q (.int (xs.getD i.toNat 0)) H) : rIxC K (.ref a) (.int i) H Q := by
  rw [rIxC_eq]
  exact i_ix hS h0 h1 h
theorem ci_lst {xs : List V} {H : Hp} {Q : VK} (hz : xs.length ≤ 1000) (h : ∀ p, H p = none → Q (.ref p) (upd H p (.lst xs))) : rLstC xs H Q := by
  rw [rLstC_eq]
  exact i_lstv hz h
def cIf (t : TT) (ta tb : TE) : TE := fun σ H Q => t σ H fun c H1 => rIte c (ta σ H1 Q) (tb σ H1 Q)
theorem ce_ifExp {c a b : Expr} {tA : TT} {ta tb : TE} {pos : Pos} (hc : PT X c tA) (ha : PE X a ta) (hb : PE X b tb) : PE X (.IfExp c a b pos) (cIf tA ta tb) := by
  have e : cIf tA ta tb = tIf tA ta tb := by
    unfold cIf tIf
    simp only [rIte_eq]
  rw [e]
  exact pe_ifExp hc ha hb
def cAnd (t u : TT) : TT := fun σ H Q => t σ H fun c H1 => rIte c (u σ H1 Q) (Q false H1)
def cOr (t u : TT) : TT := fun σ H Q => t σ H fun c H1 => rIte c (Q true H1) (u σ H1 Q)
theorem cw_and {a b : Expr} {rest : List Expr} {pos : Pos} {tA tB' : TT} (ha : PT X a tA) (hb : PW X (.BoolOp .And (b :: rest) pos) tB') : PW X (.BoolOp .And (a :: b :: rest) pos) (cAnd tA tB') := by
  have e : cAnd tA tB' = tAnd tA tB' := by
    unfold cAnd tAnd
    simp only [rIte_eq]
  rw [e]
  exact pw_and ha hb
theorem cw_or {a b : Expr} {rest : List Expr} {pos : Pos} {tA tB' : TT} (ha : PT X a tA) (hb : PW X (.BoolOp .Or (b :: rest) pos) tB') : PW X (.BoolOp .Or (a :: b :: rest) pos) (cOr tA tB') := by
  have e : cOr tA tB' = tOr tA tB' := by
    unfold cOr tOr
    simp only [rIte_eq]
  rw [e]
  exact pw_or ha hb
theorem ci_iteN {c : Prop} [Decidable c] {A B : Prop} (h1 : ¬ c → A) (h2 : c → B) : rIte (!decide c) A B := by
  rw [rIte_eq]
  exact i_iteN h1 h2
def cNe : R2 := fun x y H Q => match x, y with
  | .int i, .int j => Q (.bl (decide (¬ i = j))) H
  | _, _ => False
theorem c_ne : OpR X (compareOp .NotEq) cNe := op_ne.imp fun x y H Q q => by
  unfold cNe at q
  split at q
  · exact i_ne q
  · exact q.elim
def cU (g : Int → V) : V → Hp → VK → Prop := fun x H Q => match x with
  | .int i => Q (g i) H
  | _ => False
theorem c_neg : UnR X (unaryOp .USub) (cU fun i => .int (-i)) := by
  have e : (cU fun i => V.int (-i)) = rU fun i => V.int (-i) := by
    funext x H Q
    unfold cU rU
    cases x <;> simp
  rw [e]
  exact un_neg
theorem ct_val {e : Expr} {t : TE} (h : PE X e t) (he : ∀ whole, isTrue e X.env whole = (do let v ← whole; standAt e.pos; holding [v] (truthy v)) := by intro _; rfl) : PT X e (cTest t) := by
  have e2 : cTest t = tB t := by
    rw [cTest_eq]
    rfl
  rw [e2]
  exact pt_val h he
@[irreducible] def rMulC : R2 := rI CMul fun i j => .int (i * j)
theorem c_mul : OpR X (binaryOp .Mult) rMulC := by
  unfold rMulC
  exact op_mul
theorem ci_mul {i j : Int} {H : Hp} {Q : VK} (c : CMul i j) (h : Q (.int (i * j)) H) : rMulC (.int i) (.int j) H Q := by
  unfold rMulC
  exact i_mul c h
def cChain (r r' : R2) (ta tb tc : TE) : TE := fun σ H Q => ta σ H fun x H1 => tb σ H1 fun y H2 => r x y H2 fun z H3 => match z with
  | .bl k => rIte k (tc σ H3 fun w' H4 => r' y w' H4 Q) (Q (.bl false) H3)
  | _ => False
theorem cChain_eq (r r' : R2) (ta tb tc : TE) : cChain r r' ta tb tc = tChain r r' ta tb tc := by
  funext σ H Q
  unfold cChain tChain
  congr 1
  funext x H1
  congr 1
  funext y H2
  congr 1
  funext z H3
  simp only [rIte_eq]
  cases z <;> simp
theorem ce_chain {op op' : CmpOp} {r r' : R2} {a b c : Expr} {ta tb tc : TE} {pos : Pos} (ho : OpR X (compareOp op) r) (ho' : OpR X (compareOp op') r') (ha : PE X a ta) (hb : PE X b tb) (hc : PE X c tc)
    (hm : lastMarks [op, op'] [b, c] = false := by with_unfolding_all rfl) : PE X (.Compare a [op, op'] [b, c] pos) (cChain r r' ta tb tc) := by
  rw [cChain_eq]
  exact pe_chain ho ho' ha hb hc hm
theorem ct_chain {op op' : CmpOp} {r r' : R2} {a b c : Expr} {ta tb tc : TE} {pos : Pos} (ho : OpR X (compareOp op) r) (ho' : OpR X (compareOp op') r') (ha : PE X a ta) (hb : PE X b tb) (hc : PE X c tc)
    (hm : lastMarks [op, op'] [b, c] = false := by with_unfolding_all rfl) : PT X (.Compare a [op, op'] [b, c] pos) (cTest (cChain r r' ta tb tc)) := by
  rw [cChain_eq, cTest_eq]
  exact pt_chain ho ho' ha hb hc hm
def cAbs : List V → Hp → VK → Prop := fun xs H Q => match xs with
  | [.int i] => Q (.int (if i < 0 then -i else i)) H
  | _ => False
def cMin2 : List V → Hp → VK → Prop := fun xs H Q => match xs with
  | [.int i, .int j] => Q (.int (if j < i then j else i)) H
  | _ => False
def cMax2 : List V → Hp → VK → Prop := fun xs H Q => match xs with
  | [.int i, .int j] => Q (.int (if j > i then j else i)) H
  | _ => False
theorem CallR.imp {f : Value} {r r' : List V → Hp → VK → Prop} (h : CallR X f r) (w : ∀ xs H Q, r' xs H Q → r xs H Q) : CallR X f r' := fun pins s σ H xs us Q I rv q => h pins s σ H xs us Q I rv (w xs H Q q)
theorem call_absC : CallR X (.builtin "abs") cAbs := call_absR.imp fun xs H Q q => by
  unfold cAbs at q
  split at q
  · exact i_abs q
  · exact q.elim
theorem call_minC (hc : X.calm = true) : CallR X (.builtin "min") cMin2 := (call_minR hc).imp fun xs H Q q => by
  unfold cMin2 at q
  split at q
  · exact i_min q
  · exact q.elim
theorem call_maxC (hc : X.calm = true) : CallR X (.builtin "max") cMax2 := (call_maxR hc).imp fun xs H Q q => by
  unfold cMax2 at q
  split at q
  · exact i_max q
  · exact q.elim
@[irreducible] def rSetC : V → V → V → Hp → (Hp → Prop) → Prop := rSetL
theorem c_set : PSet X rSetC := by
  unfold rSetC
  exact set_list
theorem ci_set {a : Addr} {xs : List Int} {i v : Int} {H : Hp} {R : Hp → Prop} (hS : H a = some (.lst (xs.map V.int))) (h0 : 0 ≤ i) (h1 : i < xs.length) (h : R (upd H a (.lst ((xs.set i.toNat v).map V.int)))) : rSetC (.ref a) (.int i) (.int v) H R := by
  unfold rSetC
  exact i_set hS h0 h1 h
@[irreducible] def rLenC (K : PySem.W.Frag) : List V → Hp → VK → Prop := rLen K
@[irreducible] def rListOfC (K : PySem.W.Frag) : List V → Hp → VK → Prop := rListOf K
@[irreducible] def rSumC (K : PySem.W.Frag) : List V → Hp → VK → Prop := rSumI K
@[irreducible] def rMaxLC (K : PySem.W.Frag) : List V → Hp → VK → Prop := rMaxL K
@[irreducible] def rMinLC (K : PySem.W.Frag) : List V → Hp → VK → Prop := rMinL K
theorem call_lenC {K : PySem.W.Frag} (e : X.K = K) : CallR X (.builtin "len") (rLenC K) := by
  unfold rLenC
  exact call_lenR e
theorem call_listC {K : PySem.W.Frag} (e : X.K = K) : CallR X (.type "list") (rListOfC K) := by
  unfold rListOfC
  exact call_listR e
theorem call_sumC {K : PySem.W.Frag} (hc : X.calm = true) (e : X.K = K) : CallR X (.builtin "sum") (rSumC K) := by
  unfold rSumC
  exact call_sumR hc e
theorem call_maxLC {K : PySem.W.Frag} (hc : X.calm = true) (e : X.K = K) : CallR X (.builtin "max") (rMaxLC K) := by
  unfold rMaxLC
  exact call_maxLR hc e
theorem call_minLC {K : PySem.W.Frag} (hc : X.calm = true) (e : X.K = K) : CallR X (.builtin "min") (rMinLC K) := by
  unfold rMinLC
  exact call_minLR hc e
section
variable {K : PySem.W.Frag} {a : Addr} {H : Hp} {Q : VK}
theorem ci_len {xs : List Int} (hS : IL K H a xs) (h : Q (.int xs.length) H) : rLenC K [.ref a] H Q := by
  unfold rLenC
  exact i_len hS h
theorem ci_lenL {xs : List V} (hS : SqL K H a xs) (h : Q (.int xs.length) H) : rLenC K [.ref a] H Q := by
  unfold rLenC
  exact i_lenL hS h
theorem ci_listof {xs : List Int} (hS : IL K H a xs) (h : ∀ l, H l = none → Q (.ref l) (upd H l (.lst (xs.map V.int)))) : rListOfC K [.ref a] H Q := by
  unfold rListOfC
  exact i_listof hS h
theorem ci_sum {ns : List Int} (h1 : IL K H a ns) (h : Q (.int ns.sum) H) : rSumC K [.ref a] H Q := by
  unfold rSumC
  exact i_sum h1 h
theorem ci_maxL {ns : List Int} (h1 : IL K H a ns) (h2 : 0 < ns.length) (h : ∀ M, M ∈ ns → (∀ a, a ∈ ns → a ≤ M) → Q (.int M) H) : rMaxLC K [.ref a] H Q := by
  unfold rMaxLC
  exact i_maxL h1 h2 h
theorem ci_minL {ns : List Int} (h1 : IL K H a ns) (h2 : 0 < ns.length) (h : ∀ M, M ∈ ns → (∀ a, a ∈ ns → M ≤ a) → Q (.int M) H) : rMinLC K [.ref a] H Q := by
  unfold rMinLC
  exact i_minL h1 h2 h
theorem ci_ixR {as : List Addr} {i : Int} {b : Addr} (hS : H a = some (.lst (as.map V.ref))) (h0 : 0 ≤ i) (hb : as[i.toNat]? = some b) (h : Q (.ref b) H) : rIxC K (.ref a) (.int i) H Q := by
  rw [rIxC_eq]
  exact i_ixR hS h0 hb h
end
@[irreducible] def rTupC : List V → Hp → VK → Prop := rTup
def cTup (t : TA) : TE := fun σ H Q => t σ H fun xs H1 => rTupC xs H1 Q
theorem ce_tup {es : List Expr} {t : TA} {x1 : Nat} {pos : Pos} (h : PA X es t) : PE X (.Tuple es x1 pos) (cTup t) := by
  have e : cTup t = tTup t := by
    unfold cTup rTupC
    rfl
  rw [e]
  exact pe_tup h
theorem ci_tup {xs : List V} {H : Hp} {Q : VK} (hz : xs.length ≤ 1000) (h : ∀ p, H p = none → Q (.ref p) (upd H p (.tup xs))) : rTupC xs H Q := by
  unfold rTupC
  exact i_tupv hz h
@[irreducible] def rRepC : R2 := rRep
@[irreducible] def rCatC : R2 := rCat
theorem c_rep : OpR X (binaryOp .Mult) rRepC := by
  unfold rRepC
  exact op_rep
theorem c_cat : OpR X (binaryOp .Add) rCatC := by
  unfold rCatC
  exact op_cat
theorem ci_rep {l : Addr} {k : Int} {v : V} {H : Hp} {Q : VK} (hH : H l = some (.lst [v])) (h0 : 0 ≤ k) (h1 : k ≤ 100000) (h : ∀ p, H p = none → Q (.ref p) (upd H p (.lst (List.replicate k.toNat v)))) : rRepC (.ref l) (.int k) H Q := by
  unfold rRepC
  exact i_rep hH h0 h1 h
def cIp (f : Int → Int → Int) : TIp := fun x y H Q => match x, y with
  | .int i, .int j => Q (.int (f i j)) H
  | _, _ => False
theorem cIp_eq (f : Int → Int → Int) : cIp f = ipI f := by
  funext x y H Q
  refine propext ⟨fun q => ?_, fun ⟨i, j, e1, e2, q⟩ => ?_⟩
  · unfold cIp at q
    split at q
    · exact ⟨_, _, rfl, rfl, q⟩
    · exact q.elim
  · subst e1 e2
    exact q
theorem cip_add : PIp X .Add (cIp fun i j => i + j) := by
  rw [cIp_eq]
  exact ip_add
theorem cip_sub : PIp X .Sub (cIp fun i j => i - j) := by
  rw [cIp_eq]
  exact ip_sub
def cAug (i : Nat) (te : TE) (ti : TIp) : TS := fun D σ H => match σ[i]? with
  | some (some x) => te σ H fun y H1 => ti x y H1 fun z H2 => D.nx (σ.set i (some z)) H2
  | _ => False
theorem cs_aug {i : Nat} {x : Str} {e : Expr} {te : TE} {op : Operator} {ti : TIp} {pos pos' : Pos} (hN : X.N.Nodup) (hi : X.N[i]? = some x) (hx : Loc X.env.scope x) (he : PE X e te) (ho : PIp X op ti) (hf : X.fn x = true ∨ X.env.scope.names.lookup x = some .local := by first | exact .inl rfl | exact .inr rfl | assumption) :
    PS X (.AugAssign (.Name x pos') op e pos) (cAug i te ti) := fun pins s σ H D I q => ps_aug hN hi hx he ho hf pins s σ H D I (by
  unfold cAug at q
  split at q
  · exact ⟨_, by assumption, q⟩
  · exact q.elim)
theorem cget : PGet X (rIxC X.K) := by
  rw [rIxC_eq]
  exact get_list
@[irreducible] def cFor (wi : TI) (g : TG) (tb : TS) : TS := tFor wi g tb
theorem cs_for {tg iter : Expr} {body : List Stmt} {wi : TI} {g : TG} {tb : TS} {pos : Pos} (hp : PassesOwn (model X.prog X.w) X.A X.env X.xe) (hc : X.calm = true) (hi : PI X tg iter wi) (hg : PG X tg g) (hb : PSs X body tb)
    (hs : ∀ x, foldedSetIterable iter X.env x = pure x := by intro _; rfl) : PS X (.For tg iter body [] pos) (cFor wi g tb) := by
  unfold cFor
  exact ps_for hp hc hi hg hb hs
theorem ci_for {wi : TI} {g : TG} {tb : TS} {D : Ends} {σ : L2.St} {H : Hp} (h : tFor wi g tb D σ H) : cFor wi g tb D σ H := by
  unfold cFor
  exact h
@[irreducible] def cWhile (c : TT) (tb : TS) : TS := tWhile c tb
theorem cs_while {c : Expr} {body : List Stmt} {tc : TT} {tb : TS} {pos : Pos} (hp : PassesOwn (model X.prog X.w) X.A X.env X.xe) (hc : PT X c tc) (hb : PSs X body tb) : PS X (.While c body [] pos) (cWhile tc tb) := by
  unfold cWhile
  exact ps_while hp hc hb
theorem ci_while {c : TT} {tb : TS} {D : Ends} {σ : L2.St} {H : Hp} (h : tWhile c tb D σ H) : cWhile c tb D σ H := by
  unfold cWhile
  exact h
@[irreducible] def rRng1C (R : It → Hp → Prop) : List V → Hp → Prop := rRng1 R
@[irreducible] def rRng2C (R : It → Hp → Prop) : List V → Hp → Prop := rRng2 R
@[irreducible] def rRng3C (R : It → Hp → Prop) : List V → Hp → Prop := rRng3 R
def cRng1 (ta : TA) : TI := fun σ H R => ta σ H fun vs H1 => rRng1C R vs H1
def cRng2 (ta : TA) : TI := fun σ H R => ta σ H fun vs H1 => rRng2C R vs H1
def cRng3 (ta : TA) : TI := fun σ H R => ta σ H fun vs H1 => rRng3C R vs H1
theorem cpi_range1 {tg a : Expr} {ta : TA} {p pos : Pos} (hg : Gl X "range") (hm : X.mg "range" = none) (ha : PA X [a] ta) (hs : starEach [a] X.env = [(false, eval a X.env)] := by rfl) : PI X tg (.Call (.Name "range" p) [a] [] pos) (cRng1 ta) := by
  have e : cRng1 ta = iRng1 ta := by
    unfold cRng1 rRng1C
    rfl
  rw [e]
  exact pi_range1 hg hm ha hs
theorem cpi_range2 {tg a b : Expr} {ta : TA} {p pos : Pos} (hg : Gl X "range") (hm : X.mg "range" = none) (ha : PA X [a, b] ta)
    (hs : starEach [a, b] X.env = [(false, eval a X.env), (false, eval b X.env)] := by rfl) (hs2 : starEach [b] X.env = [(false, eval b X.env)] := by rfl) : PI X tg (.Call (.Name "range" p) [a, b] [] pos) (cRng2 ta) := by
  have e : cRng2 ta = iRng2 ta := by
    unfold cRng2 rRng2C
    rfl
  rw [e]
  exact pi_range2 hg hm ha hs hs2
theorem cpi_range3 {tg a b c : Expr} {ta : TA} {p pos : Pos} (hg : Gl X "range") (hm : X.mg "range" = none) (ha : PA X [a, b, c] ta)
    (hs : starEach [a, b, c] X.env = (false, eval a X.env) :: starEach [b, c] X.env := by rfl) (hpl : (backTo pos (starEach [b, c] X.env)).any (·.1) = false := by rfl) : PI X tg (.Call (.Name "range" p) [a, b, c] [] pos) (cRng3 ta) := by
  have e : cRng3 ta = iRng3 ta := by
    unfold cRng3 rRng3C
    rfl
  rw [e]
  exact pi_range3 hg hm ha hs hpl
theorem ci_rng1 {j : Int} {H : Hp} {R : It → Hp → Prop} (h1 : -(2 ^ 62) ≤ j) (h2 : j < 2 ^ 62) (h : R (Itr 0 j.toNat) H) : rRng1C R [.int j] H := by
  unfold rRng1C
  exact i_rng1v h1 h2 h
theorem ci_rng2 {i j : Int} {H : Hp} {R : It → Hp → Prop} (h1 : -(2 ^ 62) ≤ i ∧ i < 2 ^ 62 ∧ -(2 ^ 62) ≤ j ∧ j < 2 ^ 62) (h : R (Itr i (j - i).toNat) H) : rRng2C R [.int i, .int j] H := by
  unfold rRng2C
  exact i_rng2v h1 h
theorem ci_rng3 {i j c : Int} {n : Nat} {H : Hp} {R : It → Hp → Prop} (h1 : RgC i j c n) (h : R (Itc i c n) H) : rRng3C R [.int i, .int j, .int c] H := by
  unfold rRng3C
  exact i_rng3v h1 h
end
end L2
end
section
namespace L2
open PySem PySem.Spec PyProof.Rows
section
variable {X : Cx} {K : PySem.W.Frag}
@[irreducible] def rSFldC (K : PySem.W.Frag) (f : Str) (y : V) (R : Hp → Prop) : V → Hp → Prop := fun x H2 => ∃ a C dx fs, x = .ref a ∧ H2 a = some (.ins C dx fs) ∧ Cls K C ∧ NoAttr K C f ∧ fs.length < 1000 ∧ R (upd H2 a (.ins C dx (putF f y fs)))
def cSFld (K : PySem.W.Frag) (ta tv : TE) (f : Str) : TS := fun D σ H => tv σ H fun y H1 => ta σ H1 fun x H2 => rSFldC K f y (fun H3 => D.nx σ H3) x H2
theorem cs_fld {o value : Expr} {f : Str} {ta tv : TE} {pos pos' : Pos} (ha : PE X o ta) (hv : PE X value tv) (hs : swapsWith value (some (.Attribute o f pos')) pos.line X.env = pure false) : PS X (.Assign [.Attribute o f pos'] value pos) (cSFld X.K ta tv f) := by
  have e : cSFld X.K ta tv f = sFld X.K ta tv f := by
    unfold cSFld rSFldC sFld
    rfl
  rw [e]
  exact ps_fld ha hv hs
theorem ci_sput {C p dx : Addr} {f : Str} {y : V} {fs : List (Str × V)} {H : Hp} {R : Hp → Prop} (c : Cls K C) (n : NoAttr K C f) (h1 : H p = some (.ins C dx fs)) (h2 : fs.length < 1000) (h : R (upd H p (.ins C dx (putF f y fs)))) : rSFldC K f y R (.ref p) H := by
  unfold rSFldC
  exact ⟨p, C, dx, fs, rfl, h1, c, n, h2, h⟩
@[irreducible] def rMethC (C : Addr) (m : Str) (sp : Sp) (E : XK) (t : TA) (σ : St) : V → Hp → VK → Prop := fun x H1 Q => ∃ a dx fs, x = .ref a ∧ H1 a = some (.ins C dx fs) ∧ fs.lookup m = none ∧ t σ H1 fun vs H2 => sp (x :: (vs ++ [])) H2 Q E
def cMeth (C : Addr) (m : Str) (sp : Sp) (E : XK) (ta : TE) (t : TA) : TE := fun σ H Q => ta σ H fun x H1 => rMethC C m sp E t σ x H1 Q
theorem cMeth_eq (C : Addr) (m : Str) (sp : Sp) (E : XK) (ta : TE) (t : TA) : cMeth C m sp E ta t = tMeth C m sp [] E ta t := by
  unfold cMeth rMethC tMeth
  rfl
theorem ce_mcal {C : Addr} {m : Str} {j k : Nat} {ps : List Str} {sp : Sp} {o e : Expr} {es : List Expr} {to : TE} {t : TA} {apos pos : Pos} {pl : Sem Bool} (M : MCal X.prog X.w X.K X.mg X.base C m j ps sp) (hr : Room k X.A) (ho : PE X o to) (ha : PA X (e :: es) t) (hj : j ≤ k := by decide)
    (hst : starEach (e :: es) X.env = (false, eval e X.env) :: starEach es X.env := by rfl) (hpl : (backTo pos (starEach es X.env)).any (·.1) = false := by rfl)
    (ht : eval (.Call (.Attribute o m apos) (e :: es) [] pos) X.env = (do
      let ov ← eval o X.env
      standAt apos.atName
      let (f, first) ← holding [ov] (getMethod ov m pl)
      callWith pos f first (backTo pos (starEach (e :: es) X.env)) (backToKw pos (keywordEach [] X.env))) := by rfl) :
    PE X (.Call (.Attribute o m apos) (e :: es) [] pos) (cMeth C m sp E0 to t) := by
  rw [cMeth_eq]
  exact pe_mcal M hr ho ha hj hst hpl ht
theorem ce_mcal0 {C : Addr} {m : Str} {j k : Nat} {ps : List Str} {sp : Sp} {o : Expr} {to : TE} {apos pos : Pos} {pl : Sem Bool} (M : MCal X.prog X.w X.K X.mg X.base C m j ps sp) (hr : Room k X.A) (ho : PE X o to) (hj : j ≤ k := by decide)
    (ht : eval (.Call (.Attribute o m apos) [] [] pos) X.env = (do
      let ov ← eval o X.env
      standAt apos.atName
      let (f, first) ← holding [ov] (getMethod ov m pl)
      callWith pos f first (backTo pos (starEach [] X.env)) (backToKw pos (keywordEach [] X.env))) := by rfl) :
    PE X (.Call (.Attribute o m apos) [] [] pos) (cMeth C m sp E0 to tNil) := by
  rw [cMeth_eq]
  exact pe_mcal0 M hr ho hj ht
theorem ci_methF {C p dx : Addr} {fs : List (Str × V)} {m : Str} {sp : Sp} {E : XK} {t : TA} {σ : L2.St} {H : Hp} {Q : VK} (h1 : H p = some (.ins C dx fs)) (h2 : fs.lookup m = none) (h : t σ H fun vs H2 => sp (.ref p :: (vs ++ [])) H2 Q E) : rMethC C m sp E t σ (.ref p) H Q := by
  unfold rMethC
  exact ⟨p, dx, fs, rfl, h1, h2, h⟩
@[irreducible] def rBMC (K : PySem.W.Frag) (r : V → List V → Hp → VK → Prop) (t : TA) (σ : St) : V → Hp → VK → Prop := fun x H1 Q => tyV K "list" x H1 ∧ t σ H1 fun xs H2 => r x xs H2 Q
def cBM (K : PySem.W.Frag) (r : V → List V → Hp → VK → Prop) (to : TE) (t : TA) : TE := fun σ H Q => to σ H fun x H1 => rBMC K r t σ x H1 Q
theorem ce_bm {K : PySem.W.Frag} (eK : X.K = K) {o e : Expr} {es : List Expr} {to : TE} {t : TA} {name : Str} {apos cpos : Pos} {id : String} {r : V → List V → Hp → VK → Prop} (slot : Slot "list" name id) (hty : typeOf (.builtin id) = pure (.type "method_descriptor")) (hm : MtR X id r) (ho : PE X o to) (ha : PA X (e :: es) t)
    (hbase : attributeBase o name X.env (eval o X.env) = eval o X.env := by rfl)
    (hfew : ((backTo cpos (starEach (e :: es) X.env)).all (fun x => !x.1) && (backToKw cpos (keywordEach [] X.env)).all (fun x => x.1.isSome)
      && decide ((e :: es).length + ([] : List Keyword).length + (if ([] : List Keyword).isEmpty then 0 else 1) < 30)) = true := by rfl)
    (hline : (apos.endLine == cpos.line) = true := by rfl) (hs : starEach (e :: es) X.env = (false, eval e X.env) :: starEach es X.env := by rfl) (hplain : (backTo cpos (starEach es X.env)).any (·.1) = false := by rfl) :
    PE X (.Call (.Attribute o name apos) (e :: es) [] cpos) (cBM K r to t) := by
  subst eK
  have e : cBM X.K r to t = tBM X.K "list" r to t := by
    unfold cBM rBMC tBM
    rfl
  rw [e]
  exact pe_bm PySem.F.plainAttrs_list slot hty hm ho ha hbase hfew hline hs hplain
theorem ce_bm0 {K : PySem.W.Frag} (eK : X.K = K) {o : Expr} {to : TE} {name : Str} {apos cpos : Pos} {id : String} {r : V → List V → Hp → VK → Prop} (slot : Slot "list" name id) (hty : typeOf (.builtin id) = pure (.type "method_descriptor")) (hm : MtR X id r) (ho : PE X o to)
    (hbase : attributeBase o name X.env (eval o X.env) = eval o X.env := by rfl) (hline : (apos.endLine == cpos.line) = true := by rfl) : PE X (.Call (.Attribute o name apos) [] [] cpos) (cBM K r to tNil) := by
  subst eK
  have e : cBM X.K r to tNil = tBM0 X.K "list" r to := by
    unfold cBM rBMC tBM0 tNil
    rfl
  rw [e]
  exact pe_bm0 PySem.F.plainAttrs_list slot hty hm ho hbase hline
theorem ci_bm {r : V → List V → Hp → VK → Prop} {t : TA} {σ : L2.St} {l : Addr} {xs : List V} {H : Hp} {Q : VK} (h : H l = some (.lst xs)) (q : t σ H fun ys H2 => r (.ref l) ys H2 Q) : rBMC K r t σ (.ref l) H Q := by
  unfold rBMC
  exact ⟨ty_list h, q⟩
theorem ci_bmS {r : V → List V → Hp → VK → Prop} {t : TA} {σ : L2.St} {l : Addr} {xs : List V} {H : Hp} {Q : VK} (h : SqL K H l xs) (q : t σ H fun ys H2 => r (.ref l) ys H2 Q) : rBMC K r t σ (.ref l) H Q := by
  unfold rBMC
  exact ⟨.inl ⟨rfl, _, h⟩, q⟩
@[irreducible] def rAppendC : V → List V → Hp → VK → Prop := rAppend
@[irreducible] def rExtendC : V → List V → Hp → VK → Prop := rExtend
@[irreducible] def rExtendTC : V → List V → Hp → VK → Prop := rExtendT
@[irreducible] def rReverseC : V → List V → Hp → VK → Prop := rReverse
@[irreducible] def rIndexC (K : PySem.W.Frag) : V → List V → Hp → VK → Prop := rIndex K
theorem cmt_append : MtR X "list.append" rAppendC := by
  unfold rAppendC
  exact mt_append
theorem cmt_extend : MtR X "list.extend" rExtendC := by
  unfold rExtendC
  exact mt_extend
theorem cmt_extendT : MtR X "list.extend" rExtendTC := by
  unfold rExtendTC
  exact mt_extendT
theorem cmt_reverse : MtR X "list.reverse" rReverseC := by
  unfold rReverseC
  exact mt_reverse
theorem cmt_index {K : PySem.W.Frag} (e : X.K = K) : MtR X "list.index" (rIndexC K) := by
  unfold rIndexC
  exact e ▸ mt_index
theorem ci_app {l : Addr} {xs : List V} {y : V} {H : Hp} {Q : VK} (h : H l = some (.lst xs)) (hz : xs.length < 100000) (q : Q .non (upd H l (.lst (xs ++ [y])))) : rAppendC (.ref l) [y] H Q := by
  unfold rAppendC
  exact i_app h (Nat.lt_of_lt_of_le hz (by decide)) q
theorem ci_ext {l b : Addr} {xs zs : List V} {H : Hp} {Q : VK} (h1 : H l = some (.lst xs)) (h2 : H b = some (.lst zs)) (hz : xs.length + zs.length ≤ 100000) (q : Q .non (upd H l (.lst (xs ++ zs)))) : rExtendC (.ref l) [.ref b] H Q := by
  unfold rExtendC
  exact i_ext h1 h2 hz q
theorem ci_extT {l b : Addr} {xs zs : List V} {H : Hp} {Q : VK} (h1 : H l = some (.lst xs)) (h2 : H b = some (.tup zs)) (hz : xs.length + zs.length ≤ 100000) (q : Q .non (upd H l (.lst (xs ++ zs)))) : rExtendTC (.ref l) [.ref b] H Q := by
  unfold rExtendTC
  exact i_extT h1 h2 hz q
theorem ci_rev {l : Addr} {xs : List V} {H : Hp} {Q : VK} (h : H l = some (.lst xs)) (q : Q .non (upd H l (.lst xs.reverse))) : rReverseC (.ref l) [] H Q := by
  unfold rReverseC
  exact i_rev h q
theorem flat_ints (ns : List Int) : (ns.map V.int).all flatV = true := by
  rw [List.all_map]
  exact List.all_eq_true.mpr fun _ _ => rfl
theorem ci_index {a : Addr} {ns : List Int} {v : Int} {j : Nat} {H : Hp} {Q : VK} (hS : IL K H a ns) (hj : j < ns.length) (e : ns.getD j 0 = v) (no : ∀ m, m < j → ns.getD m 0 ≠ v) (q : Q (.int (j : Nat)) H) : rIndexC K (.ref a) [.int v] H Q := by
  unfold rIndexC
  have at_ : ∀ {i : Nat}, i < ns.length → (ns.map V.int)[i]? = some (.int (ns.getD i 0)) := fun {i} hi => by
    rw [List.getElem?_map, List.getD_eq_getElem?_getD, List.getElem?_eq_getElem hi]
    rfl
  refine ⟨a, _, .int v, j, _, rfl, rfl, hS, rfl, flat_ints ns, at_ hj, ?_, fun m z' hm hz => ?_, q⟩
  · rw [e]
    exact decide_eq_true rfl
  · have e2 := at_ (i := m) (by omega)
    rw [hz] at e2
    have e3 := Option.some.inj e2
    subst e3
    exact decide_eq_false (no m hm)
@[irreducible] def rSlC (K : PySem.W.Frag) : V → Option Int → Option Int → Hp → VK → Prop := rSlL K
theorem c_sl {K : PySem.W.Frag} (e : X.K = K) : SlR X (rSlC K) := by
  unfold rSlC
  exact e ▸ sl_list
def cPart (t : TE) : TO := fun σ H Q => t σ H fun x H1 => match x with
  | .int i => Q (some i) H1
  | _ => False
theorem cpo_some {e : Expr} {te : TE} (h : PE X e te) : PO X (some e) (cPart te) := by
  have e : cPart te = tPart te := by
    funext σ H Q
    unfold cPart tPart
    congr 1
    funext x H1
    cases x <;> simp
  rw [e]
  exact po_some h
theorem ci_cut {a : Addr} {xs : List Int} {lo hi : Option Int} {H : Hp} {Q : VK} (h1 : IL K H a xs) (h : ∀ p, H p = none → Q (.ref p) (upd H p (.lst (cutV (xs.map V.int) lo hi)))) : rSlC K (.ref a) lo hi H Q := by
  unfold rSlC
  exact ⟨a, _, rfl, h1, h⟩
def cAndV (ta tb : TE) : TE := fun σ H Q => ta σ H fun x H1 => match x with
  | .bl c => rIte c (tb σ H1 Q) (Q (.bl false) H1)
  | _ => False
def cOrV (ta tb : TE) : TE := fun σ H Q => ta σ H fun x H1 => match x with
  | .bl c => rIte c (Q (.bl true) H1) (tb σ H1 Q)
  | _ => False
theorem ce_and {a b : Expr} {rest : List Expr} {ta tb : TE} {pos : Pos} (ha : PE X a ta) (hb : PE X (.BoolOp .And (b :: rest) pos) tb) : PE X (.BoolOp .And (a :: b :: rest) pos) (cAndV ta tb) := by
  have e : cAndV ta tb = tAndV ta tb := by
    funext σ H Q
    unfold cAndV tAndV
    congr 1
    funext x H1
    simp only [rIte_eq]
    cases x <;> simp
  rw [e]
  exact pe_and ha hb
theorem ce_or {a b : Expr} {rest : List Expr} {ta tb : TE} {pos : Pos} (ha : PE X a ta) (hb : PE X (.BoolOp .Or (b :: rest) pos) tb) : PE X (.BoolOp .Or (a :: b :: rest) pos) (cOrV ta tb) := by
  have e : cOrV ta tb = tOrV ta tb := by
    funext σ H Q
    unfold cOrV tOrV
    congr 1
    funext x H1
    simp only [rIte_eq]
    cases x <;> simp
  rw [e]
  exact pe_or ha hb
@[irreducible] def rInC (K : PySem.W.Frag) : R2 := rIn K false
theorem c_in {K : PySem.W.Frag} (e : X.K = K) : OpR X (compareOp .In) (rInC K) := by
  unfold rInC
  exact e ▸ op_in_seq
theorem ci_in {p : Addr} {ns : List Int} {i : Int} {H : Hp} {Q : VK} (h : SqT K H p (ns.map V.int)) (q : Q (.bl (decide (i ∈ ns))) H) : rInC K (.int i) (.ref p) H Q := by
  unfold rInC
  refine ⟨p, _, rfl, .inr h, rfl, flat_ints ns, ?_⟩
  have e : inV (.int i) (ns.map V.int) = decide (i ∈ ns) := by
    unfold inV
    rw [List.any_map, Bool.eq_iff_iff, List.any_eq_true, decide_eq_true_iff]
    constructor
    · rintro ⟨x, hx, e⟩
      have : x = i := of_decide_eq_true e
      exact this ▸ hx
    · intro h
      exact ⟨i, h, decide_eq_true rfl⟩
  simp only [Bool.false_eq_true, if_false, e]
  exact q
@[irreducible] def rIxTC (K : PySem.W.Frag) : R2 := rIxT K
theorem c_ixT {K : PySem.W.Frag} (e : X.K = K) : IxR X (rIxTC K) := by
  unfold rIxTC
  exact e ▸ ix_tup
theorem ci_ixT {a : Addr} {xs : List V} {v : V} {i : Int} {H : Hp} {Q : VK} (hS : SqT K H a xs) (h0 : 0 ≤ i) (h1 : xs[i.toNat]? = some v) (q : Q v H) : rIxTC K (.ref a) (.int i) H Q := by
  unfold rIxTC
  refine ⟨a, xs, i, v, rfl, rfl, hS, ?_, q⟩
  obtain ⟨j, rfl⟩ : ∃ j : Nat, i = (j : Int) := ⟨i.toNat, by omega⟩
  rw [Int.toNat_natCast] at h1
  exact atI_nat h1
@[irreducible] def rCallVC (P : Program) (w : World) (K : PySem.W.Frag) (mg : Str → Option Value) (base : Heap) (k : Nat) (t : TA) (σ : St) : V → Hp → VK → Prop := fun x H1 Q => ∃ (f : Addr) (fd : FuncData) (ps : List Str) (sp : Sp), x = .ref f ∧ FnOk P w K mg base CX0 k f fd ps sp ∧ PySem.W.keepIn K (.ref f) = true ∧ Binds K fd ps [] ∧ t σ H1 fun vs H2 => sp (vs ++ []) H2 Q E0
def cCallV (P : Program) (w : World) (K : PySem.W.Frag) (mg : Str → Option Value) (base : Heap) (k : Nat) (tv : TE) (t : TA) : TE := fun σ H Q => tv σ H fun x H1 => rCallVC P w K mg base k t σ x H1 Q
theorem ce_callV {x : Str} {k : Nat} {tv : TE} {e : Expr} {es : List Expr} {t : TA} {p pos : Pos} (hr : Room k X.A) (hv : PE X (.Name x p) tv) (ha : PA X (e :: es) t)
    (he : starEach (e :: es) X.env = (false, eval e X.env) :: starEach es X.env := by rfl) (hpl : (backTo pos (starEach es X.env)).any (·.1) = false := by rfl) :
    PE X (.Call (.Name x p) (e :: es) [] pos) (cCallV X.prog X.w X.K X.mg X.base k tv t) := by
  have e : cCallV X.prog X.w X.K X.mg X.base k tv t = tCallV X.prog X.w X.K X.mg X.base k tv t := by
    unfold cCallV rCallVC tCallV
    rfl
  rw [e]
  exact pe_callV hr hv ha he hpl
theorem ci_callV {P : Program} {w : World} {mg : Str → Option Value} {base : Heap} {k j : Nat} {t : TA} {σ : L2.St} {x f : Addr} {fd : FuncData} {ps : List Str} {sp : Sp} {H : Hp} {Q : VK} (F : FnOk P w K mg base CX0 j f fd ps sp) (hk : PySem.W.keepIn K (.ref f) = true) (hb : Binds K fd ps []) (hj : j ≤ k) (q : t σ H fun vs H2 => sp (vs ++ []) H2 Q E0) : rCallVC P w K mg base k t σ (.ref f) H Q := by
  unfold rCallVC
  exact ⟨f, fd, ps, sp, rfl, F.mono hj, hk, hb, q⟩
structure Mak (P : Program) (w : World) (K : PySem.W.Frag) (mg : Str → Option Value) (base : Heap) (x : Str) (C : Addr) (k : Nat) (ps : List Str) (sp : Sp) : Prop where
  ex : ∃ (f : Addr) (fd : FuncData), Mk K C f ∧ FnOk P w K mg base CX0 k f fd ps sp ∧ mg x = some (.ref C) ∧ Binds K fd ps []
@[irreducible] def rMakeC (C : Addr) (sp : Sp) : Hp → VK → Prop := fun H1 Q => ∀ x dx, H1 x = none → H1 dx = none → dx ≠ x → sp [.ref x] (upd (upd H1 dx (.own x)) x (.ins C dx [])) (fun v H2 => v = .non ∧ Q (.ref x) H2) E0
def cMake (C : Addr) (sp : Sp) : TE := fun _ H Q => rMakeC C sp H Q
theorem ce_make {x : Str} {C : Addr} {j k : Nat} {ps : List Str} {sp : Sp} {p pos : Pos} (M : Mak X.prog X.w X.K X.mg X.base x C j ps sp) (hr : Room k X.A) (hj : j + 1 ≤ k := by decide) (hg : Gl X x := by rfl) (hdb : (x == ("__debug__" : Str)) = false := by decide) : PE X (.Call (.Name x p) [] [] pos) (cMake C sp) := by
  obtain ⟨f, fd, mk, F, hm, hb⟩ := M.ex
  have e : cMake C sp = tMake C sp [] E0 tNil := by
    unfold cMake rMakeC tMake tNil
    rfl
  rw [e]
  obtain ⟨k', rfl⟩ : ∃ k', k = k' + 1 := ⟨k - 1, by omega⟩
  exact pe_make0 mk (F.mono (by omega)) hr hg hm hb .nil pass0 hdb
theorem ci_make {C : Addr} {sp : Sp} {H : Hp} {Q : VK} (h : ∀ x dx, H x = none → H dx = none → dx ≠ x → sp [.ref x] (upd (upd H dx (.own x)) x (.ins C dx [])) (fun v H2 => v = .non ∧ Q (.ref x) H2) E0) : rMakeC C sp H Q := by
  unfold rMakeC
  exact h
theorem ci_cat {l b : Addr} {xs ys : List Int} {H : Hp} {Q : VK} (h1 : H l = some (.lst (xs.map V.int))) (h2 : H b = some (.lst (ys.map V.int))) (hz : xs.length + ys.length ≤ 100000) (h : ∀ p, H p = none → Q (.ref p) (upd H p (.lst ((xs ++ ys).map V.int)))) : rCatC (.ref l) (.ref b) H Q := by
  unfold rCatC
  refine ⟨l, b, _, _, rfl, rfl, h1, h2, ?_, fun p hp => ?_⟩
  · have : 100000 ≤ sizeLine := by decide
    rw [List.length_map, List.length_map]
    omega
  · rw [← List.map_append]
    exact h p hp
@[irreducible] def cgTup (K : PySem.W.Frag) (n : Nat) (t : TGs) : TG := gTup K n t
def cgNil : TGs := fun vs σ H Q => match vs with
  | [] => Q σ H
  | _ => False
def cgCons (t : TG) (u : TGs) : TGs := fun vs σ H Q => match vs with
  | v :: r => t v σ H fun σ' H' => u r σ' H' Q
  | [] => False
theorem cpg_tup {K : PySem.W.Frag} (e : X.K = K) {es : List Expr} {k : Nat} {t : TGs} {n : Nat} {pos : Pos} (hc : X.calm = true) (h : PGs X es t)
    (hn : (assignEach es X.env).length = n := by rfl) (hst : (assignEach es X.env).findIdx? (·.1) = none := by rfl) : PG X (.Tuple es k pos) (cgTup K n t) := by
  unfold cgTup
  exact e ▸ pg_tup hc h hn hst
theorem cpgs_nil : PGs X [] cgNil := by
  have e : cgNil = gNil := by
    funext vs σ H Q
    unfold cgNil gNil
    cases vs <;> simp
  rw [e]
  exact pgs_nil
theorem cpgs_cons {e : Expr} {es : List Expr} {t : TG} {u : TGs} (h1 : PG X e t) (h2 : PGs X es u)
    (hs : (assignEach (e :: es) X.env).map (·.2) = assign e X.env :: (assignEach es X.env).map (·.2) := by rfl) : PGs X (e :: es) (cgCons t u) := by
  have e : cgCons t u = gCons t u := by
    funext vs σ H Q
    unfold cgCons gCons
    cases vs with
    | nil => simp
    | cons v r => exact propext ⟨fun q => ⟨v, r, rfl, q⟩, fun ⟨v', r', e, q⟩ => by cases e; exact q⟩
  rw [e]
  exact pgs_cons h1 h2 hs
theorem ci_gtup {n : Nat} {t : TGs} {T : Addr} {xs : List V} {σ : L2.St} {H : Hp} {R : St → Hp → Prop} (h1 : SqT K H T xs) (h2 : xs.length = n) (h : t xs σ H R) : cgTup K n t (.ref T) σ H R := by
  unfold cgTup
  exact i_gtup h1 h2 h
@[irreducible] def rListI (K : PySem.W.Frag) (R : It → Hp → Prop) : V → Hp → Prop := fun x H1 => ∃ a, x = .ref a ∧ (∃ xs, SqL K H1 a xs) ∧ R (Itl K a) H1
def cListI (K : PySem.W.Frag) (tl : TE) : TI := fun σ H R => tl σ H fun x H1 => rListI K R x H1
theorem cpi_list {K : PySem.W.Frag} (e : X.K = K) {tg l : Expr} {tl : TE} (hl : PE X l tl) : PI X tg l (cListI K tl) := by
  subst e
  have e : cListI X.K tl = iList X.K tl := by
    unfold cListI rListI iList
    rfl
  rw [e]
  exact pi_list hl
theorem ci_ilist {R : It → Hp → Prop} {a : Addr} {xs : List V} {H : Hp} (h : SqL K H a xs) (q : R (Itl K a) H) : rListI K R (.ref a) H := by
  unfold rListI
  exact ⟨a, rfl, ⟨_, h⟩, q⟩
@[irreducible] def rEnumI (K : PySem.W.Frag) (R : It → Hp → Prop) : List V → Hp → Prop := fun vs H1 => ∃ a xs, vs = [.ref a] ∧ SqL K H1 a xs ∧ R (Ite K a) H1
def cEnumI (K : PySem.W.Frag) (ta : TA) : TI := fun σ H R => ta σ H fun vs H1 => rEnumI K R vs H1
theorem cpi_enum {K : PySem.W.Frag} (eK : X.K = K) {e : Expr} {ta : TA} {p pos tpos : Pos} {elts : List Expr} {kk : Nat} (hg : Gl X "enumerate") (hm : X.mg "enumerate" = none) (ha : PA X [e] ta) (hs : starEach [e] X.env = [(false, eval e X.env)] := by rfl) :
    PI X (.Tuple elts kk tpos) (.Call (.Name "enumerate" p) [e] [] pos) (cEnumI K ta) := by
  subst eK
  have e : cEnumI X.K ta = iEnum X.K ta := by
    unfold cEnumI rEnumI iEnum
    rfl
  rw [e]
  exact pi_enum hg hm ha hs
theorem ci_ienum {R : It → Hp → Prop} {a : Addr} {xs : List V} {H : Hp} (h : SqL K H a xs) (q : R (Ite K a) H) : rEnumI K R [.ref a] H := by
  unfold rEnumI
  exact ⟨a, _, rfl, h, q⟩
@[irreducible] def rZipI (K : PySem.W.Frag) (R : It → Hp → Prop) : List V → Hp → Prop := fun vs H1 => ∃ a b xs ys, vs = [.ref a, .ref b] ∧ SqL K H1 a xs ∧ SqL K H1 b ys ∧ R (Itz K a b) H1
def cZipI (K : PySem.W.Frag) (ta : TA) : TI := fun σ H R => ta σ H fun vs H1 => rZipI K R vs H1
theorem cpi_zip {K : PySem.W.Frag} (eK : X.K = K) {e e2 : Expr} {ta : TA} {p pos tpos : Pos} {elts : List Expr} {kk : Nat} (hg : Gl X "zip") (hm : X.mg "zip" = none) (ha : PA X [e, e2] ta)
    (hs : starEach [e, e2] X.env = (false, eval e X.env) :: starEach [e2] X.env := by rfl) (hpl : (backTo pos (starEach [e2] X.env)).any (·.1) = false := by rfl) :
    PI X (.Tuple elts kk tpos) (.Call (.Name "zip" p) [e, e2] [] pos) (cZipI K ta) := by
  subst eK
  have e : cZipI X.K ta = iZip X.K ta := by
    unfold cZipI rZipI iZip
    rfl
  rw [e]
  exact pi_zip hg hm ha hs hpl
theorem ci_izip {R : It → Hp → Prop} {a b : Addr} {xs ys : List V} {H : Hp} (h : SqL K H a xs) (h2 : SqL K H b ys) (q : R (Itz K a b) H) : rZipI K R [.ref a, .ref b] H := by
  unfold rZipI
  exact ⟨a, b, _, _, rfl, h, h2, q⟩
@[irreducible] def rLcC (J : It) (g : TG) (tt : TT) (te : TE) (vs : List Nat) (σ : St) (Q : VK) (H1 : Hp) : Prop := ∀ D, H1 D = none → ∃ W : Nat → Nat → Hp → Prop, (∃ m, W 0 m (upd H1 D (.lst []))) ∧ ∀ i m H, W i m H →
  (J.stop i H ∧ Q (.ref D) H) ∨ (J.go i H ∧ ∃ Nx : Hp → Prop, (∀ H', Nx H' → ∃ m', m' < m ∧ W (i + 1) m' H') ∧ ∀ x H', J.yld i H x H' → g x (wipe σ vs) H' fun σ2 H2 => wipe σ2 vs = wipe σ vs ∧ tt σ2 H2 fun b H3 =>
    if b = true then te σ2 H3 fun y H4 => ∃ acc, H4 D = some (.lst acc) ∧ acc.length < sizeLine ∧ Nx (upd H4 D (.lst (acc ++ [y]))) else Nx H3)
def cLC (wi : TI) (g : TG) (tt : TT) (te : TE) (vs : List Nat) : TE := fun σ H Q => wi σ H fun J H1 => rLcC J g tt te vs σ Q H1
theorem cLC_eq (wi : TI) (g : TG) (tt : TT) (te : TE) (vs : List Nat) : cLC wi g tt te vs = tLc wi g tt te vs := by
  unfold cLC rLcC tLc
  rfl
theorem ce_LC {elt tg iter : Expr} {ifs : List Expr} {scope : Scope} {own : List (Str × Nat)} {pos : Pos} {wi : TI} {g : TG} {tt : TT} {te : TE} (hc : X.calm = true) (hN : X.N.Nodup) (hi : PI X tg iter wi) (ok : BlkOk X.N X.env.scope scope own)
    (hg : ∀ (s : Shared) (H : Hp) (C : Addr) (cl : List (Str × Addr)) (fp : List Addr), PG (X.blk s H scope (compEnvC scope cl C X.env) fp) tg g) (ht : ∀ (s : Shared) (H : Hp) (C : Addr) (cl : List (Str × Addr)) (fp : List Addr), PTs (X.blk s H scope (compEnvC scope cl C X.env) fp) ifs tt)
    (he : ∀ (s : Shared) (H : Hp) (C : Addr) (cl : List (Str × Addr)) (fp : List Addr), PE (X.blk s H scope (compEnvC scope cl C X.env) fp) elt te) (hs : ∀ x, foldedSetIterable iter X.env x = pure x := by intro _; rfl) :
    PE X (.ListComp elt [⟨tg, iter, ifs, 0⟩] scope pos) (cLC wi g tt te (own.map (·.2))) := by
  rw [cLC_eq]
  exact pe_lc hc hN hi ok hg ht he hs
theorem cs_setLC {i : Nat} {y : Str} {py : Pos} {elt tg iter : Expr} {ifs : List Expr} {scope : Scope} {own : List (Str × Nat)} {pos spos : Pos} {wi : TI} {g : TG} {tt : TT} {te : TE} (hc : X.calm = true) (hN : X.N.Nodup) (hy : X.N[i]? = some y) (hyl : X.env.scope.names.lookup y = some .local)
    (hsw : swapsWith (.ListComp elt [⟨tg, iter, ifs, 0⟩] scope pos) (some (.Name y py)) spos.line X.env = pure true) (hi : PI X tg iter wi) (ok : BlkOk X.N X.env.scope scope own)
    (hg : ∀ (s : Shared) (H : Hp) (C : Addr) (cl : List (Str × Addr)) (fp : List Addr), PG (X.blk s H scope (compEnvC scope cl C X.env) fp) tg g) (ht : ∀ (s : Shared) (H : Hp) (C : Addr) (cl : List (Str × Addr)) (fp : List Addr), PTs (X.blk s H scope (compEnvC scope cl C X.env) fp) ifs tt)
    (he : ∀ (s : Shared) (H : Hp) (C : Addr) (cl : List (Str × Addr)) (fp : List Addr), PE (X.blk s H scope (compEnvC scope cl C X.env) fp) elt te) (hs : ∀ x, foldedSetIterable iter X.env x = pure x := by intro _; rfl) :
    PS X (.Assign [.Name y py] (.ListComp elt [⟨tg, iter, ifs, 0⟩] scope pos) spos) (tAsg (cLC wi g tt te (own.map (·.2))) (gName i)) := by
  rw [cLC_eq]
  exact ps_setLc hc hN hy hyl hsw hi ok hg ht he hs
section
variable {g : TG} {te : TE} {vs : List Nat} {σ : L2.St} {H : Hp} {Q : VK}
theorem ci_lcRng {n : Nat} (F : Nat → Int) (hn : n ≤ 100000)
    (hs : ∀ (i : Nat) (H' : Hp) (R : VK), i < n → Same H H' → (∀ H4, Same H' H4 → R (.int (F i)) H4) → g (.int (i : Int)) (wipe σ vs) H' fun σ2 H2 => wipe σ2 vs = wipe σ vs ∧ te σ2 H2 R)
    (hd : ∀ (H' : Hp) (D : Addr), Same H H' → H D = none → H' D = some (.lst (((List.range n).map F).map V.int)) → Q (.ref D) H') : rLcC (Itr 0 n) g tYes te vs σ Q H := by
  unfold rLcC
  refine lc_go F (Nat.le_trans hn (by decide)) (fun i H' hi _ => hi) (fun H' _ => Nat.le_refl _) (fun i H' x H'' hi hS y => ?_) hd
  obtain ⟨e, y⟩ := y
  subst e y
  refine ⟨Same.rfl, fun R hR => ?_⟩
  have := hs i _ R (by omega) hS hR
  rw [show (0 : Int) + (i : Int) = (i : Int) by omega]
  exact this
theorem at_ints {xs : List Int} {i : Nat} (hi : i < xs.length) : (xs.map V.int)[i]? = some (.int (xs.getD i 0)) := by
  rw [List.getElem?_map, List.getD_eq_getElem?_getD, List.getElem?_eq_getElem hi]
  rfl
theorem ci_lcLst {a : Addr} {xs : List Int} (F : Nat → Int) (hS : IL K H a xs) (hn : xs.length ≤ 100000)
    (hs : ∀ (i : Nat) (H' : Hp) (R : VK), i < xs.length → Same H H' → (∀ H4, Same H' H4 → R (.int (F i)) H4) → g (.int (xs.getD i 0)) (wipe σ vs) H' fun σ2 H2 => wipe σ2 vs = wipe σ vs ∧ te σ2 H2 R)
    (hd : ∀ (H' : Hp) (D : Addr), Same H H' → H D = none → H' D = some (.lst (((List.range xs.length).map F).map V.int)) → Q (.ref D) H') : rLcC (Itl K a) g tYes te vs σ Q H := by
  unfold rLcC
  refine lc_go F (Nat.le_trans hn (by decide)) (fun i H' hi e => ⟨_, _, e.seq hS, at_ints hi⟩) (fun H' e => ⟨_, e.seq hS, by simp⟩) (fun i H' x H'' hi e y => ?_) hd
  obtain ⟨e1, hz⟩ := y
  subst e1
  have ez : x = .int (xs.getD i 0) := Option.some.inj ((hz _ (e.seq hS)).symm.trans (at_ints hi))
  subst ez
  exact ⟨Same.rfl, fun R hR => hs i _ R hi e hR⟩
theorem ci_lcAny {a : Addr} {xs : List V} (F : Nat → Int) (hS : SqL K H a xs) (hn : xs.length ≤ 100000)
    (hs : ∀ (i : Nat) (H' : Hp) (v : V) (R : VK), xs[i]? = some v → Same H H' → (∀ H4, Same H' H4 → R (.int (F i)) H4) → g v (wipe σ vs) H' fun σ2 H2 => wipe σ2 vs = wipe σ vs ∧ te σ2 H2 R)
    (hd : ∀ (H' : Hp) (D : Addr), Same H H' → H D = none → H' D = some (.lst (((List.range xs.length).map F).map V.int)) → Q (.ref D) H') : rLcC (Itl K a) g tYes te vs σ Q H := by
  unfold rLcC
  refine lc_go F (Nat.le_trans hn (by decide)) (fun i H' hi e => ⟨_, _, e.seq hS, List.getElem?_eq_getElem hi⟩) (fun H' e => ⟨_, e.seq hS, by simp⟩) (fun i H' x H'' hi e y => ?_) hd
  obtain ⟨e1, hz⟩ := y
  subst e1
  exact ⟨Same.rfl, fun R hR => hs i _ x R (hz _ (e.seq hS)) e hR⟩
theorem ci_lcEnum {a : Addr} {xs : List Int} (F : Nat → Int) (hS : IL K H a xs) (hn : xs.length ≤ 100000)
    (hs : ∀ (i : Nat) (H' : Hp) (T : Addr) (R : VK), i < xs.length → Same H H' → SqT K H' T [.int (i : Nat), .int (xs.getD i 0)] → (∀ H4, Same H' H4 → R (.int (F i)) H4) → g (.ref T) (wipe σ vs) H' fun σ2 H2 => wipe σ2 vs = wipe σ vs ∧ te σ2 H2 R)
    (hd : ∀ (H' : Hp) (D : Addr), Same H H' → H D = none → H' D = some (.lst (((List.range xs.length).map F).map V.int)) → Q (.ref D) H') : rLcC (Ite K a) g tYes te vs σ Q H := by
  unfold rLcC
  refine lc_go F (Nat.le_trans hn (by decide)) (fun i H' hi e => ⟨_, _, e.seq hS, at_ints hi⟩) (fun H' e => ⟨_, e.seq hS, by simp⟩) (fun i H' x H'' hi e y => ?_) hd
  obtain ⟨T, z, rfl, hT, rfl, hz⟩ := y
  have ez : z = .int (xs.getD i 0) := Option.some.inj ((hz _ (e.seq hS)).symm.trans (at_ints hi))
  subst ez
  exact ⟨Same.rfl.new hT, fun R hR => hs i _ T R hi (e.new hT) (SqT.of upd_same) hR⟩
theorem ci_lcZip {a b : Addr} {xs ys : List Int} (F : Nat → Int) (hS : IL K H a xs) (hS2 : IL K H b ys) (hl : ys.length = xs.length) (hn : xs.length ≤ 100000)
    (hs : ∀ (i : Nat) (H' : Hp) (T : Addr) (R : VK), i < xs.length → Same H H' → SqT K H' T [.int (xs.getD i 0), .int (ys.getD i 0)] → (∀ H4, Same H' H4 → R (.int (F i)) H4) → g (.ref T) (wipe σ vs) H' fun σ2 H2 => wipe σ2 vs = wipe σ vs ∧ te σ2 H2 R)
    (hd : ∀ (H' : Hp) (D : Addr), Same H H' → H D = none → H' D = some (.lst (((List.range xs.length).map F).map V.int)) → Q (.ref D) H') : rLcC (Itz K a b) g tYes te vs σ Q H := by
  unfold rLcC
  refine lc_go F (Nat.le_trans hn (by decide)) (fun i H' hi e => ⟨_, _, _, _, e.seq hS, e.seq hS2, at_ints hi, at_ints (by omega)⟩) (fun H' e => ⟨_, _, e.seq hS, e.seq hS2, .inl (by simp)⟩) (fun i H' x H'' hi e y => ?_) hd
  obtain ⟨T, z, z2, rfl, hT, rfl, hz, hz2⟩ := y
  have ez : z = .int (xs.getD i 0) := Option.some.inj ((hz _ (e.seq hS)).symm.trans (at_ints hi))
  have ez2 : z2 = .int (ys.getD i 0) := Option.some.inj ((hz2 _ (e.seq hS2)).symm.trans (at_ints (by omega)))
  subst ez ez2
  exact ⟨Same.rfl.new hT, fun R hR => hs i _ T R hi (e.new hT) (SqT.of upd_same) hR⟩
theorem lc_goF {J : It} {tt : TT} {n : Nat} (p : Nat → Bool) (F : Nat → Int) (hn : n ≤ sizeLine)
    (hgo : ∀ i H', i < n → Same H H' → J.go i H') (hst : ∀ H', Same H H' → J.stop n H')
    (hs : ∀ i H' x H'', i < n → Same H H' → J.yld i H' x H'' → Same H' H'' ∧ ∀ (R : VK) (N : Hp → Prop), (p i = true → ∀ H4, Same H'' H4 → R (.int (F i)) H4) → (p i = false → ∀ H4, Same H'' H4 → N H4) → g x (wipe σ vs) H'' fun σ2 H2 => wipe σ2 vs = wipe σ vs ∧ tt σ2 H2 fun b H3 => if b = true then te σ2 H3 R else N H3)
    (hd : ∀ (H' : Hp) (D : Addr), Same H H' → H D = none → H' D = some (.lst ((((List.range n).filter p).map F).map V.int)) → Q (.ref D) H') : rLcC J g tt te vs σ Q H := by
  unfold rLcC
  intro D hD
  refine ⟨fun i m H' => m = n - i ∧ i ≤ n ∧ Same H H' ∧ H' D = some (.lst ((((List.range i).filter p).map F).map V.int)), ⟨n, by simp, Nat.zero_le _, Same.rfl.new hD, upd_same⟩, ?_⟩
  rintro i m H1 ⟨rfl, hi, hS, hL⟩
  by_cases hlt : i < n
  · refine .inr ⟨hgo i H1 hlt hS, fun H' => Same H H' ∧ H' D = some (.lst ((((List.range (i + 1)).filter p).map F).map V.int)), fun H' q => ⟨n - (i + 1), by omega, rfl, hlt, q.1, q.2⟩, fun x H' y => ?_⟩
    obtain ⟨s1, q⟩ := hs i H1 x H' hlt hS y
    refine q (fun y H4 => ∃ acc, H4 D = some (.lst acc) ∧ acc.length < sizeLine ∧ Same H (upd H4 D (.lst (acc ++ [y]))) ∧ upd H4 D (.lst (acc ++ [y])) D = some (.lst ((((List.range (i + 1)).filter p).map F).map V.int))) (fun H' => Same H H' ∧ H' D = some (.lst ((((List.range (i + 1)).filter p).map F).map V.int))) (fun hp H4 s4 => ?_) (fun hp H4 s4 => ?_)
    · refine ⟨_, s4 _ _ (s1 _ _ hL), ?_, ?_, ?_⟩
      · simp only [List.length_map]
        have := List.length_filter_le p (List.range i)
        rw [List.length_range] at this
        omega
      · exact ((hS.trans s1).trans s4).re hD
      · rw [upd_same, List.range_succ, List.filter_append]
        simp [hp]
    · refine ⟨(hS.trans s1).trans s4, ?_⟩
      rw [s4 _ _ (s1 _ _ hL), List.range_succ, List.filter_append]
      simp [hp]
  · have e : i = n := by omega
    subst e
    exact .inl ⟨hst H1 hS, hd H1 D hS hD hL⟩
theorem ci_lcLstF {tt : TT} {a : Addr} {xs : List Int} (p : Nat → Bool) (F : Nat → Int) (hS : IL K H a xs) (hn : xs.length ≤ 100000)
    (hs : ∀ (i : Nat) (H' : Hp) (R : VK) (N : Hp → Prop), i < xs.length → Same H H' → (p i = true → ∀ H4, Same H' H4 → R (.int (F i)) H4) → (p i = false → ∀ H4, Same H' H4 → N H4) → g (.int (xs.getD i 0)) (wipe σ vs) H' fun σ2 H2 => wipe σ2 vs = wipe σ vs ∧ tt σ2 H2 fun b H3 => if b = true then te σ2 H3 R else N H3)
    (hd : ∀ (H' : Hp) (D : Addr), Same H H' → H D = none → H' D = some (.lst ((((List.range xs.length).filter p).map F).map V.int)) → Q (.ref D) H') : rLcC (Itl K a) g tt te vs σ Q H := by
  refine lc_goF p F (Nat.le_trans hn (by decide)) (fun i H' hi e => ⟨_, _, e.seq hS, at_ints hi⟩) (fun H' e => ⟨_, e.seq hS, by simp⟩) (fun i H' x H'' hi e y => ?_) hd
  obtain ⟨e1, hz⟩ := y
  subst e1
  have ez : x = .int (xs.getD i 0) := Option.some.inj ((hz _ (e.seq hS)).symm.trans (at_ints hi))
  subst ez
  exact ⟨Same.rfl, fun R N h1 h2 => hs i _ R N hi e h1 h2⟩
theorem ci_lcEnumF {tt : TT} {a : Addr} {xs : List Int} (p : Nat → Bool) (F : Nat → Int) (hS : IL K H a xs) (hn : xs.length ≤ 100000)
    (hs : ∀ (i : Nat) (H' : Hp) (T : Addr) (R : VK) (N : Hp → Prop), i < xs.length → Same H H' → SqT K H' T [.int (i : Nat), .int (xs.getD i 0)] → (p i = true → ∀ H4, Same H' H4 → R (.int (F i)) H4) → (p i = false → ∀ H4, Same H' H4 → N H4) → g (.ref T) (wipe σ vs) H' fun σ2 H2 => wipe σ2 vs = wipe σ vs ∧ tt σ2 H2 fun b H3 => if b = true then te σ2 H3 R else N H3)
    (hd : ∀ (H' : Hp) (D : Addr), Same H H' → H D = none → H' D = some (.lst ((((List.range xs.length).filter p).map F).map V.int)) → Q (.ref D) H') : rLcC (Ite K a) g tt te vs σ Q H := by
  refine lc_goF p F (Nat.le_trans hn (by decide)) (fun i H' hi e => ⟨_, _, e.seq hS, at_ints hi⟩) (fun H' e => ⟨_, e.seq hS, by simp⟩) (fun i H' x H'' hi e y => ?_) hd
  obtain ⟨T, z, rfl, hT, rfl, hz⟩ := y
  have ez : z = .int (xs.getD i 0) := Option.some.inj ((hz _ (e.seq hS)).symm.trans (at_ints hi))
  subst ez
  exact ⟨Same.rfl.new hT, fun R N h1 h2 => hs i _ T R N hi (e.new hT) (SqT.of upd_same) h1 h2⟩
end
end
end L2
end
section
namespace L2
open PySem PySem.Spec PyProof.Rows
section
variable {ta tb tc : TE} {t u : TT} {a b : TA} {r r' : R2} {K : PySem.W.Frag}
theorem me_cvar {i : Nat} : ME (cVar i) := fun σ H Q Q' h q => by
  unfold cVar at q ⊢
  split
  · rename_i e; rw [e] at q; exact h _ _ q
  · rename_i v e
    revert q
    split
    · rename_i e2; exact absurd e2 (e _)
    · exact id
theorem mr_cI0 {g : Int → Int → V} : MR (cI0 g) := fun x y H Q Q' h q => by
  cases x <;> first | exact q.elim | (cases y <;> first | exact q.elim | exact h _ _ q)
theorem mr_cix : MR (rIxC K) := by
  rw [rIxC_eq]
  exact mr_ixL
theorem mt_ctest (h1 : ME ta) : MT (cTest ta) := by
  rw [cTest_eq]
  exact mt_test h1
theorem mt_cand (h1 : MT t) (h2 : MT u) : MT (cAnd t u) := by
  have e : cAnd t u = tAnd t u := by
    unfold cAnd tAnd
    simp only [rIte_eq]
  rw [e]
  exact mt_and h1 h2
theorem me_cfld {f : Str} (h1 : ME ta) : ME (cFld K ta f) := by
  rw [cFld_eq]
  exact me_fld h1
theorem ml_clen : ML (rLenC K) := by
  unfold rLenC
  exact ml_len
end
@[irreducible] def cCut (t u : TS) : TS := tSeq t u
theorem pss_consX {X : Cx} {s : Stmt} {l : List Stmt} {t u : TS} (h1 : PS X s t) (h2 : PSs X l u) : PSs X (s :: l) (cCut t u) := by
  unfold cCut
  exact pss_cons h1 h2
theorem ci_ifCut {c : TT} {t u v : TS} {D : Ends} {σ : L2.St} {H : Hp} (Rst : Hp → Prop) (tail : ∀ H2, Rst H2 → v D σ H2) (h : ∀ nx : L2.St → Hp → Prop, (∀ H2, Rst H2 → nx σ H2) → cIfS c t u { nx := nx, rt := D.rt, bk := D.bk, ct := D.ct } σ H) : cCut (cIfS c t u) v D σ H := by
  unfold cCut
  exact h (v D) tail
end L2
end
section
namespace L2
open PySem PySem.Spec PyProof.Rows
@[irreducible] def rSp (sp : Sp) (vs : List V) (H : Hp) (Q : VK) : Prop := sp (vs ++ []) H Q E0
def cCall (sp : Sp) (t : TA) : TE := fun σ H Q => t σ H fun vs H1 => rSp sp vs H1 Q
theorem ce_cal {X : Cx} {x : Str} {j k : Nat} {ps : List Str} {sp : Sp} {e : Expr} {es : List Expr} {t : TA} {p pos : Pos} (C : Cal X.prog X.w X.K X.mg X.base x j ps sp) (hr : Room k X.A) (ha : PA X (e :: es) t) (hj : j ≤ k := by decide) (hg : Gl X x := by rfl)
    (hdb : (x == ("__debug__" : Str)) = false := by decide) (he : starEach (e :: es) X.env = (false, eval e X.env) :: starEach es X.env := by rfl) (hpl : (backTo pos (starEach es X.env)).any (·.1) = false := by rfl) :
    PE X (.Call (.Name x p) (e :: es) [] pos) (cCall sp t) := by
  have e : cCall sp t = tCall sp [] E0 t := by
    unfold cCall rSp tCall
    rfl
  rw [e]
  exact pe_cal C hr ha hj hg hdb he hpl
theorem ci_call {sp : Sp} {vs : List V} {H : Hp} {Q : VK} (h : sp (vs ++ []) H Q E0) : rSp sp vs H Q := by
  unfold rSp
  exact h
theorem ci_methD {C p dx : Addr} {fs : List (Str × V)} {m : Str} {sp : Sp} {t : TA} {σ : L2.St} {H : Hp} {Q : VK} (h1 : H p = some (.ins C dx fs)) (h2 : fs.lookup m = none) (h : t σ H fun vs H2 => rSp sp (.ref p :: vs) H2 Q) : rMethC C m sp E0 t σ (.ref p) H Q := by
  unfold rSp at h
  exact ci_methF h1 h2 h
theorem ci_callVD {K : PySem.W.Frag} {P : Program} {w : World} {mg : Str → Option Value} {base : Heap} {k j : Nat} {t : TA} {σ : L2.St} {f : Addr} {fd : FuncData} {ps : List Str} {sp : Sp} {H : Hp} {Q : VK} (F : FnOk P w K mg base CX0 j f fd ps sp) (hk : PySem.W.keepIn K (.ref f) = true) (hb : Binds K fd ps []) (hj : j ≤ k) (q : t σ H fun vs H2 => rSp sp vs H2 Q) : rCallVC P w K mg base k t σ (.ref f) H Q := by
  unfold rSp at q
  exact ci_callV (x := f) F hk hb hj q
theorem rSp_at {sp : Sp} {vs vs' : List V} {H : Hp} {Q : VK} (e : vs = vs') (h : rSp sp vs' H Q) : rSp sp vs H Q := e ▸ h
end L2
end
section
namespace L2
open PySem PySem.Spec PyProof.Rows
section
variable {X : Cx}
theorem two_of {b x y : Addr} (h : b ∈ [x, y]) : b = x ∨ b = y := by simpa using h
def ValOk (X : Cx) (σ : L2.St) (ns : List Int) (key : Value) (KV : Nat → Hp → V → Prop) : Prop :=
  ∀ (pins : List (Addr × Obj)) (s : Shared) (H : Hp) (i : Nat) (u : Value) (hd : Value → Sem Value) (β : Type) (jp : Value → Sem β) (Q : β → Shared → Prop) (E : Value → Shared → Prop), Inv X pins σ H s → i < ns.length → RelV (.int (ns.getD i 0)) u →
    (∀ y v H' s', Inv X pins σ H' s' → Same H H' → RelV y v → KV i H' y → wpAny (model X.prog X.w) X.A.in1 (jp v) Q E s') →
    wpAny (model X.prog X.w) X.A.in1 (match key with
      | .none => pure u >>= jp
      | _ => Sem.tryCatch (holding [u] (call key [u])) hd >>= jp) Q E s
def CmpOk (X : Cx) (σ : L2.St) (op : CmpOp) (KV : Nat → Hp → V → Prop) (bt : Nat → Nat → Bool) : Prop :=
  ∀ (pins : List (Addr × Obj)) (s : Shared) (H : Hp) (i j : Nat) (y z : V) (v u : Value) (Q : Value → Shared → Prop) (E : Value → Shared → Prop), Inv X pins σ H s → RelV y v → RelV z u → KV i H y → KV j H z → Q (.bool (bt i j)) s → wpAny (model X.prog X.w) X.A.in1 (richCompare op v u) Q E s
theorem min_turns {pins : List (Addr × Obj)} {σ : L2.St} {H0 : Hp} {it S a : Addr} {ns : List Int} {key : Value} {kw : List (Str × Value)} {R : Result → Shared → Prop} (KV : Nat → Hp → V → Prop) (bt : Nat → Nat → Bool) (hh : X.A.handled = none)
    (mono : ∀ i H H' y, Same H H' → KV i H y → KV i H' y) (hval : ValOk X σ ns key KV) (hcmp : CmpOk X σ CmpOp.Lt KV bt) (hne : it ≠ S) :
    ∀ (m j : Nat) (s : Shared) (H : Hp) (u v : Value) (y : V) (c : Nat), ns.length - (j + 1) = m → j + 1 ≤ ns.length → Inv X pins σ H s → Same H0 H → IL X.K H a ns → FpOk X pins H it → FpOk X pins H S → s.heap.IsListIter it a (j + 1) →
      RelV (.int (ns.getD (argBest bt j) 0)) u → RelV y v → KV (argBest bt j) H y → s.heap.get? S = some { cls := .type "list", dict := none, data := .seq #[u, v] c, slots := #[] } →
      (∀ u' H' s', Inv X pins σ H' s' → Same H0 H' → RelV (.int (ns.getD (argBest bt (ns.length - 1)) 0)) u' → R (.ok (.ret u')) s') → codeAny (model X.prog X.w) X.A (.builtin "min.loop" ⟨[.ref it, key, .ref S], kw⟩) R s := by
  have nm : (toString "min" ++ toString ".loop" : String) = "min.loop" := by decide
  intro m
  induction m with
  | zero =>
    intro j s H u v y c hm hj I e0 hL f1 f2 hit ru rv kv hS fin
    have hn : j + 1 = ns.length := by omega
    refine PySem.codeAny_builtin PySem.F.entry_min_loop ?_
    rw [Around.under_plainId PySem.F.plain_min_loop]
    show wpAny (model X.prog X.w) X.A.in1 (seqItems? (.ref S) >>= _) _ _ s
    refine wpAny_bind (wpAny_seqItems hS rfl ?_)
    show wpAny (model X.prog X.w) X.A.in1 (tryCatch (pyNext (.ref it)) _ >>= _) _ _ s
    obtain ⟨its, r, pl, _⟩ := I.list hL
    have hlen : its.length = ns.length := by rw [← r.length, List.length_map]
    refine wpAny_bind (wpAny_tryCatch (PySem.wpAny_pyNext_list_end hh hit pl.isList (by simp; omega) fun h' he => ?_))
    have I1 : Inv X pins σ H { s with heap := h', toks := s.toks } := I.turned (fun b o hb q => he b o hb q) f1.1 f1.2.1 f1.2.2.2.1 f1.2.2.2.2.1 f1.2.2.2.2.2
    have hS1 : h'.get? S = _ := he S _ (Ne.symm hne) hS
    show wpAny (model X.prog X.w) X.A.in1 (updateSeq S (fun _ => #[]) >>= _) _ _ _
    refine wpAny_bind (PySem.wpAny_updateSeq (s := { s with heap := h' }) hS1 rfl (wpAny_bind (wpAny_letGo (wpAny_pure ?_))))
    rw [← hn, Nat.add_sub_cancel] at fin
    exact fin u H _ (I1.turned (t' := s.toks) (fun b o hb q => (Heap.get?_update_other _ _ (Ne.symm hb)).trans q) f2.1 f2.2.1 f2.2.2.2.1 f2.2.2.2.2.1 f2.2.2.2.2.2) e0 ru
  | succ m ih =>
    intro j s H u v y c hm hj I e0 hL f1 f2 hit ru rv kv hS fin
    have hn : j + 1 < ns.length := by omega
    refine PySem.codeAny_builtin PySem.F.entry_min_loop ?_
    rw [Around.under_plainId PySem.F.plain_min_loop]
    show wpAny (model X.prog X.w) X.A.in1 (seqItems? (.ref S) >>= _) _ _ s
    refine wpAny_bind (wpAny_seqItems hS rfl ?_)
    show wpAny (model X.prog X.w) X.A.in1 (tryCatch (pyNext (.ref it)) _ >>= _) _ _ s
    obtain ⟨its, r, pl, _⟩ := I.list hL
    obtain ⟨u1, hu1, ru1⟩ := r.get (at_ints hn)
    refine wpAny_bind (wpAny_tryCatch (PySem.wpAny_pyNext_list_item (x := u1) hit pl.isList (by simpa using hu1) fun h' hit1 hs => ?_))
    have he := hs.extBut
    have I1 : Inv X pins σ H { s with heap := h', toks := s.toks } := I.turned (fun b o hb q => he b o hb q) f1.1 f1.2.1 f1.2.2.2.1 f1.2.2.2.2.1 f1.2.2.2.2.2
    have hS1 : h'.get? S = _ := he S _ (Ne.symm hne) hS
    obtain ⟨oi, ho, hc, hd⟩ := id hit1
    have I1p := I1.pinned (fp := [it, S]) (fun b hb => (two_of hb).elim (fun e => by rw [e]; exact f1) (fun e => by rw [e]; exact f2)) (fun b hb => by
      rcases two_of hb with e | e <;> rw [e]
      · exact ⟨oi, ho, fun v e => by rw [hd] at e; cases e⟩
      · exact ⟨_, hS1, fun v e => by cases e⟩)
    refine hval _ { s with heap := h' } H (j + 1) u1 _ _ _ _ _ I1p hn ru1 fun y2 v2 H2 s2 I2 e2 r2 k2 => ?_
    have pi : ∀ b ∈ [it, S], ∀ o, h'.get? b = some o → s2.heap.get? b = some o ∧ H2 b = none := fun b hb o q => by
      have := I2.pin (b, o) (List.mem_append_right _ (List.mem_append_right _ (mem_pinsAt hb q)))
      exact ⟨this.1, this.2.1⟩
    obtain ⟨hS2, n2⟩ := pi S (by simp) _ hS1
    obtain ⟨ho2, n1⟩ := pi it (by simp) _ ho
    have hit2 : s2.heap.IsListIter it a (j + 1 + 1) := ⟨oi, ho2, hc, hd⟩
    have I3 := I2.unpinned
    have g1 : FpOk X pins H2 it := ⟨n1, f1.2⟩
    have g2 : FpOk X pins H2 S := ⟨n2, f2.2⟩
    have L2' : IL X.K H2 a ns := hL.same e2
    show wpAny (model X.prog X.w) X.A.in1 (tryCatch (holding [u1, v2] (richCompare CmpOp.Lt v2 v >>= _)) _ >>= _) _ _ _
    refine wpAny_bind (wpAny_tryCatch (wpAny_holding (wpAny_bind (hcmp _ s2 H2 (j + 1) (argBest bt j) y2 y v2 v _ _ I3 r2 rv k2 (mono _ _ _ _ e2 kv) ?_))))
    refine wpAny_bind (wpAny_holding (wpAny_truthy_bool (wpAny_bind (wpAny_letGo (wpAny_pure ?_)))))
    cases hb : bt (j + 1) (argBest bt j) with
    | true =>
      simp only [if_true]
      refine wpAny_bind (PySem.wpAny_updateSeq hS2 rfl (wpAny_bind (wpAny_letGo ?_)))
      rw [nm]
      have eb : argBest bt (j + 1) = j + 1 := by simp only [argBest, hb, if_true]
      have I4 := I3.turned (t' := s2.toks) (it := S) (h' := s2.heap.update S (Obj.mapSeq fun _ => #[u1, v2])) (fun b o hb q => (Heap.get?_update_other _ _ (Ne.symm hb)).trans q) g2.1 g2.2.1 g2.2.2.2.1 g2.2.2.2.2.1 g2.2.2.2.2.2
      refine wpAny_pure ⟨plainId_quiet PySem.F.plain_min_loop _, ih (j + 1) _ H2 u1 v2 y2 _ (by omega) hn I4 (e0.trans e2) L2' g1 g2 ⟨oi, (Heap.get?_update_other _ _ (Ne.symm hne)).trans ho2, hc, hd⟩ (by rw [eb]; exact ru1) r2 (by rw [eb]; exact k2) (Heap.get?_update_self _ hS2 rfl) fin⟩
    | false =>
      simp only [Bool.false_eq_true, if_false]
      refine wpAny_bind (wpAny_letGo ?_)
      rw [nm]
      have eb : argBest bt (j + 1) = argBest bt j := by simp only [argBest, hb, Bool.false_eq_true, if_false]
      exact wpAny_pure ⟨plainId_quiet PySem.F.plain_min_loop _, ih (j + 1) s2 H2 u v y c (by omega) hn I3 (e0.trans e2) L2' g1 g2 hit2 (by rw [eb]; exact ru) rv (by rw [eb]; exact mono _ _ _ _ e2 kv) hS2 fin⟩
theorem min_first {pins : List (Addr × Obj)} {σ : L2.St} {H : Hp} {it S a : Addr} {ns : List Int} {key : Value} {kw : List (Str × Value)} {R : Result → Shared → Prop} (KV : Nat → Hp → V → Prop) (bt : Nat → Nat → Bool) (hh : X.A.handled = none)
    (mono : ∀ i H H' y, Same H H' → KV i H y → KV i H' y) (hval : ValOk X σ ns key KV) (hcmp : CmpOk X σ CmpOp.Lt KV bt) (hne : it ≠ S) (h0 : 0 < ns.length) {s : Shared} {c : Nat} (I : Inv X pins σ H s) (hL : IL X.K H a ns) (f1 : FpOk X pins H it) (f2 : FpOk X pins H S) (hit : s.heap.IsListIter it a 0)
    (hS : s.heap.get? S = some { cls := .type "list", dict := none, data := .seq #[] c, slots := #[] }) (fin : ∀ u' H' s', Inv X pins σ H' s' → Same H H' → RelV (.int (ns.getD (argBest bt (ns.length - 1)) 0)) u' → R (.ok (.ret u')) s') :
    codeAny (model X.prog X.w) X.A (.builtin "min.loop" ⟨[.ref it, key, .ref S], kw⟩) R s := by
  have nm : (toString "min" ++ toString ".loop" : String) = "min.loop" := by decide
  refine PySem.codeAny_builtin PySem.F.entry_min_loop ?_
  rw [Around.under_plainId PySem.F.plain_min_loop]
  show wpAny (model X.prog X.w) X.A.in1 (seqItems? (.ref S) >>= _) _ _ s
  refine wpAny_bind (wpAny_seqItems hS rfl ?_)
  show wpAny (model X.prog X.w) X.A.in1 (tryCatch (pyNext (.ref it)) _ >>= _) _ _ s
  obtain ⟨its, r, pl, _⟩ := I.list hL
  obtain ⟨u1, hu1, ru1⟩ := r.get (at_ints h0)
  refine wpAny_bind (wpAny_tryCatch (PySem.wpAny_pyNext_list_item (x := u1) hit pl.isList (by simpa using hu1) fun h' hit1 hs => ?_))
  have he := hs.extBut
  have I1 : Inv X pins σ H { s with heap := h', toks := s.toks } := I.turned (fun b o hb q => he b o hb q) f1.1 f1.2.1 f1.2.2.2.1 f1.2.2.2.2.1 f1.2.2.2.2.2
  have hS1 : h'.get? S = _ := he S _ (Ne.symm hne) hS
  obtain ⟨oi, ho, hc, hd⟩ := id hit1
  have I1p := I1.pinned (fp := [it, S]) (fun b hb => (two_of hb).elim (fun e => by rw [e]; exact f1) (fun e => by rw [e]; exact f2)) (fun b hb => by
    rcases two_of hb with e | e <;> rw [e]
    · exact ⟨oi, ho, fun v e => by rw [hd] at e; cases e⟩
    · exact ⟨_, hS1, fun v e => by cases e⟩)
  refine hval _ { s with heap := h' } H 0 u1 _ _ _ _ _ I1p h0 ru1 fun y2 v2 H2 s2 I2 e2 r2 k2 => ?_
  have pi : ∀ b ∈ [it, S], ∀ o, h'.get? b = some o → s2.heap.get? b = some o ∧ H2 b = none := fun b hb o q => by
    have := I2.pin (b, o) (List.mem_append_right _ (List.mem_append_right _ (mem_pinsAt hb q)))
    exact ⟨this.1, this.2.1⟩
  obtain ⟨hS2, n2⟩ := pi S (by simp) _ hS1
  obtain ⟨ho2, n1⟩ := pi it (by simp) _ ho
  have I3 := I2.unpinned
  have g1 : FpOk X pins H2 it := ⟨n1, f1.2⟩
  have g2 : FpOk X pins H2 S := ⟨n2, f2.2⟩
  show wpAny (model X.prog X.w) X.A.in1 (updateSeq S (fun _ => #[u1, v2]) >>= _) _ _ _
  refine wpAny_bind (PySem.wpAny_updateSeq hS2 rfl ?_)
  rw [nm]
  have I4 := I3.turned (t' := s2.toks) (it := S) (h' := s2.heap.update S (Obj.mapSeq fun _ => #[u1, v2])) (fun b o hb q => (Heap.get?_update_other _ _ (Ne.symm hb)).trans q) g2.1 g2.2.1 g2.2.2.2.1 g2.2.2.2.2.1 g2.2.2.2.2.2
  exact wpAny_pure ⟨plainId_quiet PySem.F.plain_min_loop _, min_turns KV bt hh mono hval hcmp hne _ 0 _ H2 u1 v2 y2 _ rfl h0 I4 e2 (hL.same e2) g1 g2 ⟨oi, (Heap.get?_update_other _ _ (Ne.symm hne)).trans ho2, hc, hd⟩ ru1 r2 k2 (Heap.get?_update_self _ hS2 rfl) fin⟩
theorem max_turns {pins : List (Addr × Obj)} {σ : L2.St} {H0 : Hp} {it S a : Addr} {ns : List Int} {key : Value} {kw : List (Str × Value)} {R : Result → Shared → Prop} (KV : Nat → Hp → V → Prop) (bt : Nat → Nat → Bool) (hh : X.A.handled = none)
    (mono : ∀ i H H' y, Same H H' → KV i H y → KV i H' y) (hval : ValOk X σ ns key KV) (hcmp : CmpOk X σ CmpOp.Gt KV bt) (hne : it ≠ S) :
    ∀ (m j : Nat) (s : Shared) (H : Hp) (u v : Value) (y : V) (c : Nat), ns.length - (j + 1) = m → j + 1 ≤ ns.length → Inv X pins σ H s → Same H0 H → IL X.K H a ns → FpOk X pins H it → FpOk X pins H S → s.heap.IsListIter it a (j + 1) →
      RelV (.int (ns.getD (argBest bt j) 0)) u → RelV y v → KV (argBest bt j) H y → s.heap.get? S = some { cls := .type "list", dict := none, data := .seq #[u, v] c, slots := #[] } →
      (∀ u' H' s', Inv X pins σ H' s' → Same H0 H' → RelV (.int (ns.getD (argBest bt (ns.length - 1)) 0)) u' → R (.ok (.ret u')) s') → codeAny (model X.prog X.w) X.A (.builtin "max.loop" ⟨[.ref it, key, .ref S], kw⟩) R s := by
  have nm : (toString "max" ++ toString ".loop" : String) = "max.loop" := by decide
  intro m
  induction m with
  | zero =>
    intro j s H u v y c hm hj I e0 hL f1 f2 hit ru rv kv hS fin
    have hn : j + 1 = ns.length := by omega
    refine PySem.codeAny_builtin PySem.F.entry_max_loop ?_
    rw [Around.under_plainId PySem.F.plain_max_loop]
    show wpAny (model X.prog X.w) X.A.in1 (seqItems? (.ref S) >>= _) _ _ s
    refine wpAny_bind (wpAny_seqItems hS rfl ?_)
    show wpAny (model X.prog X.w) X.A.in1 (tryCatch (pyNext (.ref it)) _ >>= _) _ _ s
    obtain ⟨its, r, pl, _⟩ := I.list hL
    have hlen : its.length = ns.length := by rw [← r.length, List.length_map]
    refine wpAny_bind (wpAny_tryCatch (PySem.wpAny_pyNext_list_end hh hit pl.isList (by simp; omega) fun h' he => ?_))
    have I1 : Inv X pins σ H { s with heap := h', toks := s.toks } := I.turned (fun b o hb q => he b o hb q) f1.1 f1.2.1 f1.2.2.2.1 f1.2.2.2.2.1 f1.2.2.2.2.2
    have hS1 : h'.get? S = _ := he S _ (Ne.symm hne) hS
    show wpAny (model X.prog X.w) X.A.in1 (updateSeq S (fun _ => #[]) >>= _) _ _ _
    refine wpAny_bind (PySem.wpAny_updateSeq (s := { s with heap := h' }) hS1 rfl (wpAny_bind (wpAny_letGo (wpAny_pure ?_))))
    rw [← hn, Nat.add_sub_cancel] at fin
    exact fin u H _ (I1.turned (t' := s.toks) (fun b o hb q => (Heap.get?_update_other _ _ (Ne.symm hb)).trans q) f2.1 f2.2.1 f2.2.2.2.1 f2.2.2.2.2.1 f2.2.2.2.2.2) e0 ru
  | succ m ih =>
    intro j s H u v y c hm hj I e0 hL f1 f2 hit ru rv kv hS fin
    have hn : j + 1 < ns.length := by omega
    refine PySem.codeAny_builtin PySem.F.entry_max_loop ?_
    rw [Around.under_plainId PySem.F.plain_max_loop]
    show wpAny (model X.prog X.w) X.A.in1 (seqItems? (.ref S) >>= _) _ _ s
    refine wpAny_bind (wpAny_seqItems hS rfl ?_)
    show wpAny (model X.prog X.w) X.A.in1 (tryCatch (pyNext (.ref it)) _ >>= _) _ _ s
    obtain ⟨its, r, pl, _⟩ := I.list hL
    obtain ⟨u1, hu1, ru1⟩ := r.get (at_ints hn)
    refine wpAny_bind (wpAny_tryCatch (PySem.wpAny_pyNext_list_item (x := u1) hit pl.isList (by simpa using hu1) fun h' hit1 hs => ?_))
    have he := hs.extBut
    have I1 : Inv X pins σ H { s with heap := h', toks := s.toks } := I.turned (fun b o hb q => he b o hb q) f1.1 f1.2.1 f1.2.2.2.1 f1.2.2.2.2.1 f1.2.2.2.2.2
    have hS1 : h'.get? S = _ := he S _ (Ne.symm hne) hS
    obtain ⟨oi, ho, hc, hd⟩ := id hit1
    have I1p := I1.pinned (fp := [it, S]) (fun b hb => (two_of hb).elim (fun e => by rw [e]; exact f1) (fun e => by rw [e]; exact f2)) (fun b hb => by
      rcases two_of hb with e | e <;> rw [e]
      · exact ⟨oi, ho, fun v e => by rw [hd] at e; cases e⟩
      · exact ⟨_, hS1, fun v e => by cases e⟩)
    refine hval _ { s with heap := h' } H (j + 1) u1 _ _ _ _ _ I1p hn ru1 fun y2 v2 H2 s2 I2 e2 r2 k2 => ?_
    have pi : ∀ b ∈ [it, S], ∀ o, h'.get? b = some o → s2.heap.get? b = some o ∧ H2 b = none := fun b hb o q => by
      have := I2.pin (b, o) (List.mem_append_right _ (List.mem_append_right _ (mem_pinsAt hb q)))
      exact ⟨this.1, this.2.1⟩
    obtain ⟨hS2, n2⟩ := pi S (by simp) _ hS1
    obtain ⟨ho2, n1⟩ := pi it (by simp) _ ho
    have hit2 : s2.heap.IsListIter it a (j + 1 + 1) := ⟨oi, ho2, hc, hd⟩
    have I3 := I2.unpinned
    have g1 : FpOk X pins H2 it := ⟨n1, f1.2⟩
    have g2 : FpOk X pins H2 S := ⟨n2, f2.2⟩
    have L2' : IL X.K H2 a ns := hL.same e2
    show wpAny (model X.prog X.w) X.A.in1 (tryCatch (holding [u1, v2] (richCompare CmpOp.Gt v2 v >>= _)) _ >>= _) _ _ _
    refine wpAny_bind (wpAny_tryCatch (wpAny_holding (wpAny_bind (hcmp _ s2 H2 (j + 1) (argBest bt j) y2 y v2 v _ _ I3 r2 rv k2 (mono _ _ _ _ e2 kv) ?_))))
    refine wpAny_bind (wpAny_holding (wpAny_truthy_bool (wpAny_bind (wpAny_letGo (wpAny_pure ?_)))))
    cases hb : bt (j + 1) (argBest bt j) with
    | true =>
      simp only [if_true]
      refine wpAny_bind (PySem.wpAny_updateSeq hS2 rfl (wpAny_bind (wpAny_letGo ?_)))
      rw [nm]
      have eb : argBest bt (j + 1) = j + 1 := by simp only [argBest, hb, if_true]
      have I4 := I3.turned (t' := s2.toks) (it := S) (h' := s2.heap.update S (Obj.mapSeq fun _ => #[u1, v2])) (fun b o hb q => (Heap.get?_update_other _ _ (Ne.symm hb)).trans q) g2.1 g2.2.1 g2.2.2.2.1 g2.2.2.2.2.1 g2.2.2.2.2.2
      refine wpAny_pure ⟨plainId_quiet PySem.F.plain_max_loop _, ih (j + 1) _ H2 u1 v2 y2 _ (by omega) hn I4 (e0.trans e2) L2' g1 g2 ⟨oi, (Heap.get?_update_other _ _ (Ne.symm hne)).trans ho2, hc, hd⟩ (by rw [eb]; exact ru1) r2 (by rw [eb]; exact k2) (Heap.get?_update_self _ hS2 rfl) fin⟩
    | false =>
      simp only [Bool.false_eq_true, if_false]
      refine wpAny_bind (wpAny_letGo ?_)
      rw [nm]
      have eb : argBest bt (j + 1) = argBest bt j := by simp only [argBest, hb, Bool.false_eq_true, if_false]
      exact wpAny_pure ⟨plainId_quiet PySem.F.plain_max_loop _, ih (j + 1) s2 H2 u v y c (by omega) hn I3 (e0.trans e2) L2' g1 g2 hit2 (by rw [eb]; exact ru) rv (by rw [eb]; exact mono _ _ _ _ e2 kv) hS2 fin⟩
theorem max_first {pins : List (Addr × Obj)} {σ : L2.St} {H : Hp} {it S a : Addr} {ns : List Int} {key : Value} {kw : List (Str × Value)} {R : Result → Shared → Prop} (KV : Nat → Hp → V → Prop) (bt : Nat → Nat → Bool) (hh : X.A.handled = none)
    (mono : ∀ i H H' y, Same H H' → KV i H y → KV i H' y) (hval : ValOk X σ ns key KV) (hcmp : CmpOk X σ CmpOp.Gt KV bt) (hne : it ≠ S) (h0 : 0 < ns.length) {s : Shared} {c : Nat} (I : Inv X pins σ H s) (hL : IL X.K H a ns) (f1 : FpOk X pins H it) (f2 : FpOk X pins H S) (hit : s.heap.IsListIter it a 0)
    (hS : s.heap.get? S = some { cls := .type "list", dict := none, data := .seq #[] c, slots := #[] }) (fin : ∀ u' H' s', Inv X pins σ H' s' → Same H H' → RelV (.int (ns.getD (argBest bt (ns.length - 1)) 0)) u' → R (.ok (.ret u')) s') :
    codeAny (model X.prog X.w) X.A (.builtin "max.loop" ⟨[.ref it, key, .ref S], kw⟩) R s := by
  have nm : (toString "max" ++ toString ".loop" : String) = "max.loop" := by decide
  refine PySem.codeAny_builtin PySem.F.entry_max_loop ?_
  rw [Around.under_plainId PySem.F.plain_max_loop]
  show wpAny (model X.prog X.w) X.A.in1 (seqItems? (.ref S) >>= _) _ _ s
  refine wpAny_bind (wpAny_seqItems hS rfl ?_)
  show wpAny (model X.prog X.w) X.A.in1 (tryCatch (pyNext (.ref it)) _ >>= _) _ _ s
  obtain ⟨its, r, pl, _⟩ := I.list hL
  obtain ⟨u1, hu1, ru1⟩ := r.get (at_ints h0)
  refine wpAny_bind (wpAny_tryCatch (PySem.wpAny_pyNext_list_item (x := u1) hit pl.isList (by simpa using hu1) fun h' hit1 hs => ?_))
  have he := hs.extBut
  have I1 : Inv X pins σ H { s with heap := h', toks := s.toks } := I.turned (fun b o hb q => he b o hb q) f1.1 f1.2.1 f1.2.2.2.1 f1.2.2.2.2.1 f1.2.2.2.2.2
  have hS1 : h'.get? S = _ := he S _ (Ne.symm hne) hS
  obtain ⟨oi, ho, hc, hd⟩ := id hit1
  have I1p := I1.pinned (fp := [it, S]) (fun b hb => (two_of hb).elim (fun e => by rw [e]; exact f1) (fun e => by rw [e]; exact f2)) (fun b hb => by
    rcases two_of hb with e | e <;> rw [e]
    · exact ⟨oi, ho, fun v e => by rw [hd] at e; cases e⟩
    · exact ⟨_, hS1, fun v e => by cases e⟩)
  refine hval _ { s with heap := h' } H 0 u1 _ _ _ _ _ I1p h0 ru1 fun y2 v2 H2 s2 I2 e2 r2 k2 => ?_
  have pi : ∀ b ∈ [it, S], ∀ o, h'.get? b = some o → s2.heap.get? b = some o ∧ H2 b = none := fun b hb o q => by
    have := I2.pin (b, o) (List.mem_append_right _ (List.mem_append_right _ (mem_pinsAt hb q)))
    exact ⟨this.1, this.2.1⟩
  obtain ⟨hS2, n2⟩ := pi S (by simp) _ hS1
  obtain ⟨ho2, n1⟩ := pi it (by simp) _ ho
  have I3 := I2.unpinned
  have g1 : FpOk X pins H2 it := ⟨n1, f1.2⟩
  have g2 : FpOk X pins H2 S := ⟨n2, f2.2⟩
  show wpAny (model X.prog X.w) X.A.in1 (updateSeq S (fun _ => #[u1, v2]) >>= _) _ _ _
  refine wpAny_bind (PySem.wpAny_updateSeq hS2 rfl ?_)
  rw [nm]
  have I4 := I3.turned (t' := s2.toks) (it := S) (h' := s2.heap.update S (Obj.mapSeq fun _ => #[u1, v2])) (fun b o hb q => (Heap.get?_update_other _ _ (Ne.symm hb)).trans q) g2.1 g2.2.1 g2.2.2.2.1 g2.2.2.2.2.1 g2.2.2.2.2.2
  exact wpAny_pure ⟨plainId_quiet PySem.F.plain_max_loop _, max_turns KV bt hh mono hval hcmp hne _ 0 _ H2 u1 v2 y2 _ rfl h0 I4 e2 (hL.same e2) g1 g2 ⟨oi, (Heap.get?_update_other _ _ (Ne.symm hne)).trans ho2, hc, hd⟩ ru1 r2 k2 (Heap.get?_update_self _ hS2 rfl) fin⟩
end
end L2
end
section
namespace L2
open PySem PySem.Spec PyProof.Rows
section
variable {X : Cx}
theorem count_eqU {k : Int} : ∀ {ns : List Int} {us : List Value}, Vals (ns.map V.int) us → us.countP (eqU (.int k)) = ns.countP fun n => decide (n = k)
  | [], _, .nil => rfl
  | n :: ns, _, .cons ⟨t, e⟩ r => by
    rw [List.countP_cons, List.countP_cons, count_eqU r, e]
    rfl
@[irreducible] def rCountC (K : PySem.W.Frag) : V → List V → Hp → VK → Prop := fun x xs H Q => ∃ (a : Addr) (ns : List Int) (k : Int), x = .ref a ∧ xs = [.int k] ∧ IL K H a ns ∧ Q (.int ((ns.countP fun n => decide (n = k) : Nat) : Int)) H
theorem cmt_count {K : PySem.W.Frag} (eK : X.K = K) : MtR X "list.count" (rCountC K) := by
  subst eK
  unfold rCountC
  intro pins s σ H x xs v us Q I rx rxs h
  obtain ⟨a, ns, k, rfl, rfl, hs, q⟩ := h
  cases rx
  obtain ⟨uy, rfl, ry⟩ := rxs.one
  obtain ⟨its, rv, ⟨⟨cls, dd, data, sl⟩, n, ho, hc, hdn, hd⟩, hlen⟩ := I.list hs
  simp only at hc hd
  subst hc hd
  refine call_meets PySem.F.slot_list_count ⟨_, ho, rfl⟩ PySem.F.entry_list_count (PySem.F.args_list_count_2 _ _) (SeqAt.list_countAt a its.toArray n dd sl uy (eqU (.int k))) ⟨ho, fun u hu => mem_eqAt ry rfl rv (flat_ints ns) u (by simpa using hu), ?_⟩
  refine ⟨.int _, H, I.tok _, ⟨_, rfl⟩, ?_⟩
  rw [show its.toArray.toList = its from rfl, count_eqU rv]
  exact q
theorem ci_count {K : PySem.W.Frag} {a : Addr} {ns : List Int} {k : Int} {H : Hp} {Q : VK} (h : IL K H a ns) (q : Q (.int ((ns.countP fun n => decide (n = k) : Nat) : Int)) H) : rCountC K (.ref a) [.int k] H Q := by
  unfold rCountC
  exact ⟨a, ns, k, rfl, rfl, h, q⟩
theorem tree_kw {prog : Program} {w : World} {A : Around} {E : Value → Shared → Prop} {s : Shared} {id : String} {b : Builtin} {args : List Value} {kw : List (Str × Value)} {Q : Value → Shared → Prop} (hk : builtinKind id = none) (hp : plainId id = true) (hb : entryFor table id = some b) (ha : argsOk id ⟨args, kw⟩)
    (hc : wpAny (model prog w) A.in1 (b ⟨args, kw⟩) (fun fin s' => match fin with
      | .done f => wants Q E (.ok f) s'
      | .again c => c.quiet = true ∧ codeAny (model prog w) A c (wants Q E) s') E s) : wpAny (model prog w) A (call (.builtin id) args kw) Q E s := by
  refine wpAny_call (codeAny_call_builtin hp hb ?_)
  simp only [checkBuiltinCall, hk]
  cases e : Manifest.signature? id with
  | none => exact wpAny_pure hc
  | some sig =>
    simp only [argsOk, e] at ha
    have e2 : Bind.checkArgs id sig ⟨args, kw⟩ = pure () := ha
    show wpAny (model prog w) A.in1 (Bind.checkArgs id sig ⟨args, kw⟩) _ _ s
    rw [e2]
    exact wpAny_pure hc
def CallKR (X : Cx) (f : Value) (ks : List Str) (r : List V → List V → Hp → VK → Prop) : Prop :=
  ∀ (pins : List (Addr × Obj)) (s : Shared) (σ : L2.St) (H : Hp) (xs zs : List V) (us ws : List Value) (Q : VK), Inv X pins σ H s → Vals xs us → Vals zs ws → r xs zs H Q → wpAny (model X.prog X.w) X.A (call f us (ks.zip ws)) (EP X pins σ Q) X.xe s
def tCBK (r : List V → List V → Hp → VK → Prop) (t tk : TA) : TE := fun σ H Q => t σ H fun vs H1 => tk σ H1 fun zs H2 => r vs zs H2 Q
theorem pe_callBK {id : String} {ks : List Str} {r : List V → List V → Hp → VK → Prop} {x : Str} {e : Expr} {es : List Expr} {kws : List Keyword} {t tk : TA} {p pos : Pos} (hc : CallKR X (.builtin id) ks r) (hg : Gl X x) (hm : X.mg x = none) (hv : bootBuiltins x = some (.builtin id)) (ha : PA X (e :: es) t) (hk : PK X kws tk)
    (hks : (backToKw pos (keywordEach kws X.env)).filterMap (·.1) = ks := by rfl) (hn : x ≠ "__name__" := by decide) (hdb : (x == ("__debug__" : Str)) = false := by decide) (h1 : backTo pos (starEach (e :: es) X.env) = (false, eval e X.env) :: backTo pos (starEach es X.env) := by rfl) (h2 : (backTo pos (starEach (e :: es) X.env)).any (·.1) = false := by rfl)
    (h3 : (backToKw pos (keywordEach kws X.env)).all (·.1.isSome) = true := by rfl) (h4 : (backToKw pos (keywordEach kws X.env)).any (·.1.isNone) = false := by rfl) : PE X (.Call (.Name x p) (e :: es) kws pos) (tCBK r t tk) := by
  intro pins s σ H Q I h
  refine wpAny_Call_Name_kw (ld_blt I hg hm hv ?_ hn hdb)
  refine PyProof.Rows.callWith_kw (thn (ha pos pins s σ H _ I h) fun us s1 ⟨vs, H1, I1, r1, q1⟩ => thn (hk pos pins s1 σ H1 _ I1 q1) fun ws s2 ⟨zs, H2, I2, r2, q2⟩ => ?_) h1 h2 h3 h4
  rw [hks]
  exact hc pins s2 σ H2 vs zs us ws Q I2 r1 r2 q2
theorem args_maxD (a d : Value) : argsOk "max" ⟨[a], [("default", d)]⟩ := by
  unfold argsOk
  kernel_rfl
theorem args_minK (a f : Value) : argsOk "min" ⟨[a], [("key", f)]⟩ := by
  unfold argsOk
  kernel_rfl
@[irreducible] def rMaxD (K : PySem.W.Frag) : List V → List V → Hp → VK → Prop := fun xs zs H Q => ∃ (a : Addr) (ns : List Int) (d : Int), xs = [.ref a] ∧ zs = [.int d] ∧ IL K H a ns ∧ (∀ H', ns = [] → Same H H' → Q (.int d) H') ∧ ∀ M H', M ∈ ns → (∀ b ∈ ns, b ≤ M) → Same H H' → Q (.int M) H'
theorem argBest_lt_len (bt : Nat → Nat → Bool) : ∀ k, argBest bt k ≤ k
  | 0 => Nat.le_refl _
  | k + 1 => by
    unfold argBest
    split
    · exact Nat.le_refl _
    · exact Nat.le_succ_of_le (argBest_lt_len bt k)
theorem call_maxD {K : PySem.W.Frag} (hcalm : X.calm = true) (eK : X.K = K) : CallKR X (.builtin "max") ["default"] (rMaxD K) := by
  subst eK
  unfold rMaxD
  intro pins s σ H xs zs us ws Q I rx rz h
  obtain ⟨a, ns, d, rfl, rfl, hL, q0, q1⟩ := h
  obtain ⟨u, rfl, ru⟩ := rx.one
  cases ru
  obtain ⟨dv, rfl, rd⟩ := rz.one
  have hh := I.ok.hd hcalm
  have nm : (toString "max" ++ toString ".loop" : String) = "max.loop" := by decide
  refine tree_kw PySem.F.kind_max PySem.F.plain_max PySem.F.entry_max (args_maxD _ _) ?_
  show wpAny (model X.prog X.w) X.A.in1 (Builtin.Builtins.bindParams "max" ["key", "default"] 0 ⟨[], [("default", dv)]⟩ >>= _) _ _ s
  refine wpAny_bind (wpAny_of_eq (show Builtin.Builtins.bindParams "max" ["key", "default"] 0 ⟨[], [("default", dv)]⟩ = pure [none, some dv] from rfl) ?_)
  refine wpAny_bind (wpAny_pure ?_)
  obtain ⟨its, r, pl, _⟩ := I.list hL
  refine wpAny_bind (PySem.wpAny_pyIter_list pl.isList ?_)
  have I1 : Inv X pins σ H { s with heap := s.heap.push { cls := .type "list_iterator", data := .fields #[.ref a, .int 0 0] }, toks := s.toks } := I.kept fun b o e => Heap.get?_push_of_some _ e
  refine wpAny_bind (wpAny_newObj_type ?_)
  rw [nm]
  refine wpAny_pure ⟨plainId_quiet PySem.F.plain_max_loop _, ?_⟩
  have I2 := I1.kept (t' := s.toks) (h' := (s.heap.push { cls := .type "list_iterator", data := .fields #[.ref a, .int 0 0] }).push { cls := .type "list", dict := none, data := .seq #[] 0 }) fun b o e => Heap.get?_push_of_some _ e
  have f1 : FpOk X pins H s.heap.objs.size := I.fpOk (Nat.le_refl _) (I.hok.fresh (Nat.le_refl _))
  have f2 : FpOk X pins H (s.heap.push { cls := .type "list_iterator", data := .fields #[.ref a, .int 0 0] }).objs.size := I1.fpOk (Nat.le_refl _) (I1.hok.fresh (Nat.le_refl _))
  have hne : s.heap.objs.size ≠ (s.heap.push { cls := .type "list_iterator", data := .fields #[.ref a, .int 0 0] }).objs.size := by rw [Heap.size_push]; omega
  have hit : ((s.heap.push { cls := .type "list_iterator", data := .fields #[.ref a, .int 0 0] }).push { cls := .type "list", dict := none, data := .seq #[] 0 }).IsListIter s.heap.objs.size a 0 := ⟨_, Heap.get?_push_of_some _ (Heap.get?_push_size _ rfl), rfl, rfl⟩
  by_cases h0 : 0 < ns.length
  · refine max_first (fun i _ y => y = .int (ns.getD i 0)) (fun i j => decide (ns.getD i 0 > ns.getD j 0)) hh (fun _ _ _ _ _ e => e) ?_ ?_ hne h0 I2 hL f1 f2 hit (Heap.get?_push_size _ rfl) ?_
    · intro pins' s' H' i u hd β jp Q' E I' hi ru' k
      exact wpAny_bind (wpAny_pure (k _ u H' s' I' Same.rfl ru' rfl))
    · intro pins' s' H' i j y z v u Q' E I' ry rz' ky kz q
      subst ky kz
      obtain ⟨t1, rfl⟩ := ry
      obtain ⟨t2, rfl⟩ := rz'
      exact CmpOf.ints_gt (P := fun i v => ∃ t, v = .int (ns.getD i 0) t) (fun i => ns.getD i 0) (fun _ _ e => e) i j _ _ s' Q' E ⟨_, rfl⟩ ⟨_, rfl⟩ q
    · intro u H' s' I' e' ru'
      obtain ⟨g1, g2⟩ := argBest_gt (fun i => ns.getD i 0) (ns.length - 1)
      refine ⟨_, H', I', ru', q1 _ H' (getD_mem (by omega)) (fun b hb => ?_) e'⟩
      obtain ⟨j, hj, rfl⟩ := mem_getD hb
      exact g2 j (by omega)
  · have en : ns = [] := List.eq_nil_of_length_eq_zero (by omega)
    subst en
    refine PySem.codeAny_builtin PySem.F.entry_max_loop ?_
    rw [Around.under_plainId PySem.F.plain_max_loop]
    show wpAny (model X.prog X.w) X.A.in1 (seqItems? (.ref (s.heap.push { cls := .type "list_iterator", data := .fields #[.ref a, .int 0 0] }).objs.size) >>= _) _ _ _
    refine wpAny_bind (wpAny_seqItems (Heap.get?_push_size _ rfl) rfl ?_)
    show wpAny (model X.prog X.w) X.A.in1 (tryCatch (pyNext (.ref s.heap.objs.size)) _ >>= _) _ _ _
    obtain ⟨its2, r2, pl2, _⟩ := I2.list hL
    refine wpAny_bind (wpAny_tryCatch (PySem.wpAny_pyNext_list_end hh hit pl2.isList (by cases its2 with | nil => rfl | cons x t => exact absurd r2.length (by simp)) fun h' he => ?_))
    have I3 := I2.turned (t' := s.toks) (h' := h') (fun b o hb q => he b o hb q) f1.1 f1.2.1 f1.2.2.2.1 f1.2.2.2.2.1 f1.2.2.2.2.2
    refine wpAny_bind (wpAny_rule (wpAny_pure ?_))
    exact ⟨_, H, I3, rd, q0 H rfl Same.rfl⟩
theorem ci_maxD {K : PySem.W.Frag} {a : Addr} {ns : List Int} {d : Int} {H : Hp} {Q : VK} (hL : IL K H a ns) (q0 : ∀ H', ns = [] → Same H H' → Q (.int d) H') (q1 : ∀ M H', M ∈ ns → (∀ b ∈ ns, b ≤ M) → Same H H' → Q (.int M) H') : rMaxD K [.ref a] [.int d] H Q := by
  unfold rMaxD
  exact ⟨a, ns, d, rfl, rfl, hL, q0, q1⟩
theorem lex_irr : ∀ a : List Int, HT.lexLt a a = false
  | [] => rfl
  | x :: a => by rw [HT.lexLt_cons, if_pos rfl]; exact lex_irr a
theorem lex_trans : ∀ {a b c : List Int}, HT.lexLt a b = true → HT.lexLt b c = true → HT.lexLt a c = true
  | [], [], _, h, _ => by cases h
  | [], _ :: _, [], _, h => by cases h
  | [], _ :: _, _ :: _, _, _ => rfl
  | _ :: _, [], _, h, _ => by cases h
  | _ :: _, _ :: _, [], _, h => by cases h
  | x :: a, y :: b, z :: c, h1, h2 => by
    rw [HT.lexLt_cons] at h1 h2 ⊢
    split at h1
    · rename_i e
      subst e
      split at h2
      · rename_i e
        rw [if_pos e]
        exact lex_trans h1 h2
      · rename_i e
        rw [if_neg e]
        exact h2
    · rename_i e
      have h1 := of_decide_eq_true h1
      split at h2
      · rename_i e2
        rw [if_neg (by omega)]
        exact decide_eq_true (by omega)
      · have h2 := of_decide_eq_true h2
        rw [if_neg (by omega)]
        exact decide_eq_true (by omega)
theorem argBest_by (f : Nat → List Int) : ∀ k i, i ≤ k → HT.lexLt (f i) (f (argBest (fun i j => HT.lexLt (f i) (f j)) k)) = false
  | 0, i, h => by
    have : i = 0 := by omega
    subst this
    exact lex_irr _
  | k + 1, i, h => by
    have ih := argBest_by f k
    unfold argBest
    split
    · rename_i hb
      by_cases e : i = k + 1
      · rw [e]; exact lex_irr _
      · cases q : HT.lexLt (f i) (f (k + 1)) with
        | false => rfl
        | true =>
          have := ih i (by omega)
          rw [lex_trans q hb] at this
          cases this
    · rename_i hb
      by_cases e : i = k + 1
      · rw [e]
        exact Bool.eq_false_iff.mpr hb
      · exact ih i (by omega)
def rMinK (K : PySem.W.Frag) (f : Addr) (κ : Int → List Int) : List V → List V → Hp → VK → Prop := fun xs zs H Q => ∃ (a : Addr) (ns : List Int), xs = [.ref a] ∧ zs = [.ref f] ∧ IL K H a ns ∧ 0 < ns.length ∧ ∀ M H', M ∈ ns → (∀ m ∈ ns, HT.lexLt (κ m) (κ M) = false) → Same H H' → Q (.int M) H'
theorem call_minK {j : Nat} {f : Addr} {fd : FuncData} {ps : List Str} {sp : Sp} {κ : Int → List Int} (hcalm : X.calm = true) (F : FnOk X.prog X.w X.K X.mg X.base CX0 j f fd ps sp) (hb : Binds X.K fd ps []) (hr : Room (j + 1) X.A)
    (hκ : ∀ (n : Int) (H : Hp) (Q : VK), (∀ (H' : Hp) (l : Addr), Same H H' → H' l = some (.tup ((κ n).map V.int)) → Q (.ref l) H') → sp [.int n] H Q E0) : CallKR X (.builtin "min") ["key"] (rMinK X.K f κ) := by
  intro pins s σ H xs zs us ws Q I rx rz h
  obtain ⟨a, ns, rfl, rfl, hL, h0, q1⟩ := h
  obtain ⟨u, rfl, ru⟩ := rx.one
  cases ru
  obtain ⟨fv, rfl, rf⟩ := rz.one
  cases rf
  have hh := I.ok.hd hcalm
  have nm : (toString "min" ++ toString ".loop" : String) = "min.loop" := by decide
  refine tree_kw PySem.F.kind_min PySem.F.plain_min PySem.F.entry_min (args_minK _ _) ?_
  show wpAny (model X.prog X.w) X.A.in1 (Builtin.Builtins.bindParams "min" ["key", "default"] 0 ⟨[], [("key", .ref f)]⟩ >>= _) _ _ s
  refine wpAny_bind (wpAny_of_eq (show Builtin.Builtins.bindParams "min" ["key", "default"] 0 ⟨[], [("key", .ref f)]⟩ = pure [some (.ref f), none] from rfl) ?_)
  refine wpAny_bind (wpAny_pure ?_)
  obtain ⟨its, r, pl, _⟩ := I.list hL
  refine wpAny_bind (PySem.wpAny_pyIter_list pl.isList ?_)
  have I1 : Inv X pins σ H { s with heap := s.heap.push { cls := .type "list_iterator", data := .fields #[.ref a, .int 0 0] }, toks := s.toks } := I.kept fun b o e => Heap.get?_push_of_some _ e
  refine wpAny_bind (wpAny_newObj_type ?_)
  rw [nm]
  refine wpAny_pure ⟨plainId_quiet PySem.F.plain_min_loop _, ?_⟩
  have I2 := I1.kept (t' := s.toks) (h' := (s.heap.push { cls := .type "list_iterator", data := .fields #[.ref a, .int 0 0] }).push { cls := .type "list", dict := none, data := .seq #[] 0 }) fun b o e => Heap.get?_push_of_some _ e
  have f1 : FpOk X pins H s.heap.objs.size := I.fpOk (Nat.le_refl _) (I.hok.fresh (Nat.le_refl _))
  have f2 : FpOk X pins H (s.heap.push { cls := .type "list_iterator", data := .fields #[.ref a, .int 0 0] }).objs.size := I1.fpOk (Nat.le_refl _) (I1.hok.fresh (Nat.le_refl _))
  have hne : s.heap.objs.size ≠ (s.heap.push { cls := .type "list_iterator", data := .fields #[.ref a, .int 0 0] }).objs.size := by rw [Heap.size_push]; omega
  have hit : ((s.heap.push { cls := .type "list_iterator", data := .fields #[.ref a, .int 0 0] }).push { cls := .type "list", dict := none, data := .seq #[] 0 }).IsListIter s.heap.objs.size a 0 := ⟨_, Heap.get?_push_of_some _ (Heap.get?_push_size _ rfl), rfl, rfl⟩
  refine min_first (fun i H y => ∃ tb, y = .ref tb ∧ H tb = some (.tup ((κ (ns.getD i 0)).map V.int))) (fun i j => HT.lexLt (κ (ns.getD i 0)) (κ (ns.getD j 0))) hh ?_ ?_ ?_ hne h0 I2 hL f1 f2 hit (Heap.get?_push_size _ rfl) ?_
  · rintro i H1 H2 y e ⟨tb, rfl, ht⟩
    exact ⟨tb, rfl, e _ _ ht⟩
  · intro pins' s' H' i u hd β jp Q' E I' hi ru' k
    refine wpAny_bind (wpAny_tryCatch (wpAny_holding (wpAny_call ?_)))
    have hsp : sp [.int (ns.getD i 0)] H' (fun v H'' => ∃ tb, v = .ref tb ∧ Same H' H'' ∧ H'' tb = some (.tup ((κ (ns.getD i 0)).map V.int))) E0 := hκ _ _ _ fun H'' l e1 e2 => ⟨l, rfl, e1, e2⟩
    have rv : Vals [V.int (ns.getD i 0)] [u] := .cons ru' .nil
    have hl : ([u] ++ []).length = ps.length := F.len _ _ _ _ hsp
    refine codeAny_mono (F.run X.A.in1 X.stack s' H' ⟨[u], []⟩ [u] _ _ _ hr.in1 I'.env0.in1 (hb s' [u] I'.kIn hl) rv hsp) fun r s2 hq => ?_
    cases r with
    | error e => exact hq.elim
    | ok fl =>
      cases fl with
      | ret u2 =>
        obtain ⟨v2, H2, I3, r3, tb, e3, e4, e5⟩ := I'.after hq
        subst e3
        exact k (.ref tb) u2 H2 s2 I3 e4 r3 ⟨tb, rfl, e5⟩
      | next => exact hq.elim
      | brk => exact hq.elim
      | cont => exact hq.elim
  · intro pins' s' H' i j' y z v u Q' E I' ry rz' ky kz q
    obtain ⟨t1, rfl, g1⟩ := ky
    obtain ⟨t2, rfl, g2⟩ := kz
    cases ry
    cases rz'
    obtain ⟨its1, r1, p1, _⟩ := I'.tuple (SqT.of g1)
    obtain ⟨its2, r2, p2, _⟩ := I'.tuple (SqT.of g2)
    have i1 : IntsAre its1.toArray.toList (κ (ns.getD i 0)) := intsAre_of r1
    have i2 : IntsAre its2.toArray.toList (κ (ns.getD j' 0)) := intsAre_of r2
    have hu := hr.in1.units
    exact HT.lt_tupInts p1 p2 i1 i2 (by omega) q
  · intro u H' s' I' e' ru'
    have hb := argBest_lt_len (fun i j => HT.lexLt (κ (ns.getD i 0)) (κ (ns.getD j 0))) (ns.length - 1)
    refine ⟨_, H', I', ru', q1 _ H' (getD_mem (by omega)) (fun b hb => ?_) e'⟩
    obtain ⟨j, hj, rfl⟩ := mem_getD hb
    exact argBest_by (fun i => κ (ns.getD i 0)) (ns.length - 1) j (by omega)
def tKey (mg : Str → Option Value) (x : Str) : TA := fun _ H Q => ∀ f, mg x = some (.ref f) → Q [.ref f] H
def rMinX (mg : Str → Option Value) (x : Str) (K : PySem.W.Frag) (κ : Int → List Int) : List V → List V → Hp → VK → Prop := fun xs zs H Q => ∃ f, mg x = some (.ref f) ∧ rMinK K f κ xs zs H Q
@[irreducible] def rMinKC (mg : Str → Option Value) (x : Str) (K : PySem.W.Frag) (κ : Int → List Int) : V → Hp → VK → Prop := fun v H Q => ∀ f, mg x = some (.ref f) → rMinX mg x K κ [v] [.ref f] H Q
def cMinK (mg : Str → Option Value) (x : Str) (K : PySem.W.Frag) (κ : Int → List Int) (te : TE) : TE := fun σ H Q => te σ H fun v H1 => rMinKC mg x K κ v H1 Q
theorem ci_minK {mg : Str → Option Value} {x : Str} {K : PySem.W.Frag} {κ : Int → List Int} {a : Addr} {ns : List Int} {H : Hp} {Q : VK} (hL : IL K H a ns) (h0 : 0 < ns.length) (q : ∀ M H', M ∈ ns → (∀ m ∈ ns, HT.lexLt (κ m) (κ M) = false) → Same H H' → Q (.int M) H') : rMinKC mg x K κ (.ref a) H Q := by
  unfold rMinKC
  exact fun f hf => ⟨f, hf, a, ns, rfl, rfl, hL, h0, q⟩
theorem ce_minK {x : Str} {j k : Nat} {ps : List Str} {sp : Sp} {κ : Int → List Int} {e : Expr} {te : TE} {p p2 kp pos : Pos} (C : Cal X.prog X.w X.K X.mg X.base x j ps sp) (hcalm : X.calm = true) (hκ : ∀ (n : Int) (H : Hp) (Q : VK), (∀ (H' : Hp) (l : Addr), Same H H' → H' l = some (.tup ((κ n).map V.int)) → Q (.ref l) H') → sp [.int n] H Q E0)
    (hr : Room k X.A) (he : PE X e te) (hm : X.mg "min" = none) (hj : j + 1 ≤ k := by decide) (hg : Gl X "min" := by rfl) (hg2 : Gl X x := by rfl) (hdb : (x == ("__debug__" : Str)) = false := by decide) (hst : starEach [e] X.env = (false, eval e X.env) :: starEach [] X.env := by rfl)
    (hks : (backToKw pos (keywordEach [⟨some "key", .Name x p2, kp⟩] X.env)).filterMap (·.1) = [("key" : Str)] := by rfl) (h1 : backTo pos (starEach [e] X.env) = (false, eval e X.env) :: backTo pos (starEach [] X.env) := by rfl) (h2 : (backTo pos (starEach [e] X.env)).any (·.1) = false := by rfl)
    (h3 : (backToKw pos (keywordEach [⟨some "key", .Name x p2, kp⟩] X.env)).all (·.1.isSome) = true := by rfl) (h4 : (backToKw pos (keywordEach [⟨some "key", .Name x p2, kp⟩] X.env)).any (·.1.isNone) = false := by rfl) :
    PE X (.Call (.Name "min" p) [e] [⟨some "key", .Name x p2, kp⟩] pos) (cMinK X.mg x X.K κ te) := by
  obtain ⟨f, fd, F, hmx, hkeep, hbnd⟩ := C.ex
  have hc : CallKR X (.builtin "min") ["key"] (rMinX X.mg x X.K κ) := fun pins s σ H xs zs us ws Q I rx rz ⟨f', hf', q⟩ => by
    rw [hmx] at hf'
    cases hf'
    exact call_minK hcalm F hbnd (hr.mono hj) hκ pins s σ H xs zs us ws Q I rx rz q
  have hk : PK X [⟨some "key", .Name x p2, kp⟩] (tKey X.mg x) := fun pos pins s σ H Q I h => pk_cons (nm := some "key") (kpos := kp) (pe_glob (v := .ref f) (pos := p2) hg2 hmx rfl hdb) pk_nil pos pins s σ H Q I (h f hmx)
  have e : cMinK X.mg x X.K κ te = tCBK (rMinX X.mg x X.K κ) (tCons te tNil) (tKey X.mg x) := by
    unfold cMinK rMinKC tCBK tKey
    rfl
  rw [e]
  exact pe_callBK hc hg hm boot_min0 (pa_cons he pa_nil hst) hk hks (by decide) (by decide) h1 h2 h3 h4
end
end L2
end
section
namespace Hl
open PySem PySem.Spec PyProof.Rows L2
def top (i : Nat) : Stmt := PySem.Challenge.pw_haul_s01_answers.main.body.getD i (.Pass ⟨0, 0, 0, 0⟩)
structure Txt (K : PySem.W.Frag) (mg : Str → Option Value) (C : Addr) : Prop where
  g_LEAST_STEP : GI mg "LEAST_STEP" 1
  g_MOST_STEP : GI mg "MOST_STEP" 10
  g_NO_PIT : GI mg "NO_PIT" (-1)
  g_NEVER : GI mg "NEVER" 1000000
  g_REACH : GI mg "REACH" 81
  g_NO_STATION : GI mg "NO_STATION" (-2)
  g_NO_SUCH_PIT : GI mg "NO_SUCH_PIT" (-6)
  g_NOT_BEGUN : GI mg "NOT_BEGUN" (-11)
  g_OUT_OF_RANGE : GI mg "OUT_OF_RANGE" (-22)
  g_CANNOT_BE : GI mg "CANNOT_BE" (-33)
  g_MOST_WORTH : GI mg "MOST_WORTH" 130
  g_BARRED : GI mg "BARRED" (-1000000)
  g_MOST_HAULED : GI mg "MOST_HAULED" 72
  g_LEAST_STATIONS : GI mg "LEAST_STATIONS" 2
  g_MOST_STATIONS : GI mg "MOST_STATIONS" 8
  g_MOST_EARTH : GI mg "MOST_EARTH" 9
  g_MOST_PRICE : GI mg "MOST_PRICE" 50
  g_BEGIN : GI mg "BEGIN" 0
  n_abs : mg "abs" = none
  n_len : mg "len" = none
  n_min : mg "min" = none
  n_max : mg "max" = none
  n_sum : mg "sum" = none
  n_range : mg "range" = none
  n_enumerate : mg "enumerate" = none
  n_zip : mg "zip" = none
  n_list : mg "list" = none
  cl : Cls K C
  a_stations : NoAttr K C "stations"
  a_step_cost : NoAttr K C "step_cost"
  a_had : NoAttr K C "had"
  a_needed : NoAttr K C "needed"
  a_borrow_prices : NoAttr K C "borrow_prices"
  a_spoil_prices : NoAttr K C "spoil_prices"
section
variable {P : Program} {w : World} {K : PySem.W.Frag} {mg : Str → Option Value} {base : Heap}
def spLI (K : PySem.W.Frag) (F : List Int → Int → List Int) (ok : List Int → Int → Prop) : Sp := fun vs H Q _ => ∃ (a : Addr) (xs : List Int) (p : Int), vs = [.ref a, .int p] ∧ IL K H a xs ∧ ok xs p ∧
  ∀ (H' : Hp) (l : Addr), Same H H' → H l = none → H' l = some (.lst ((F xs p).map V.int)) → Q (.ref l) H'
structure Ads where
  dx : Addr
  lh : Addr
  ln : Addr
  lb : Addr
  ls : Addr
def rf (n t : Int) (A : Ads) : List (Str × V) := [("stations", .int n), ("step_cost", .int t), ("had", .ref A.lh), ("needed", .ref A.ln), ("borrow_prices", .ref A.lb), ("spoil_prices", .ref A.ls)]
abbrev prs (l : List (Option Nat)) : List Int := l.map Haul.pr
structure RoadAt (C : Addr) (H : Hp) (p : Addr) (A : Ads) (a : Kv364.Abs) : Prop where
  obj : H p = some (.ins C A.dx (rf a.n a.step A))
  had : H A.lh = some (.lst ((Haul.zlist a.have_).map V.int))
  needed : H A.ln = some (.lst ((Haul.zlist a.need).map V.int))
  bor : H A.lb = some (.lst ((prs a.borrow).map V.int))
  spo : H A.ls = some (.lst ((prs a.spoil).map V.int))
  nd : [A.lh, A.ln, A.lb, A.ls].Nodup
theorem RoadAt.same {C : Addr} {H H' : Hp} {p : Addr} {A : Ads} {a : Kv364.Abs} (R : RoadAt C H p A a) (e : Same H H') : RoadAt C H' p A a := ⟨e _ _ R.obj, e _ _ R.had, e _ _ R.needed, e _ _ R.bor, e _ _ R.spo, R.nd⟩
section
variable {C : Addr} {H : Hp} {p : Addr} {A : Ads} {a : Kv364.Abs} {Q : VK}
theorem ci_fld {f : Str} {v : V} (T : Cls K C) (n : NoAttr K C f) (R : RoadAt C H p A a) (e : (rf a.n a.step A).lookup f = some v) (h : Q v H) : rFldC K f (.ref p) H Q := by
  unfold rFldC
  exact ⟨p, C, A.dx, _, _, rfl, R.obj, T, n, e, h⟩
theorem ci_stations (T : Txt K mg C) (R : RoadAt C H p A a) (h : Q (.int a.n) H) : rFldC K "stations" (.ref p) H Q := ci_fld T.cl T.a_stations R rfl h
theorem ci_step (T : Txt K mg C) (R : RoadAt C H p A a) (h : Q (.int a.step) H) : rFldC K "step_cost" (.ref p) H Q := ci_fld T.cl T.a_step_cost R rfl h
theorem ci_had (T : Txt K mg C) (R : RoadAt C H p A a) (h : Q (.ref A.lh) H) : rFldC K "had" (.ref p) H Q := ci_fld T.cl T.a_had R rfl h
theorem ci_needed (T : Txt K mg C) (R : RoadAt C H p A a) (h : Q (.ref A.ln) H) : rFldC K "needed" (.ref p) H Q := ci_fld T.cl T.a_needed R rfl h
theorem ci_bor (T : Txt K mg C) (R : RoadAt C H p A a) (h : Q (.ref A.lb) H) : rFldC K "borrow_prices" (.ref p) H Q := ci_fld T.cl T.a_borrow_prices R rfl h
theorem ci_spo (T : Txt K mg C) (R : RoadAt C H p A a) (h : Q (.ref A.ls) H) : rFldC K "spoil_prices" (.ref p) H Q := ci_fld T.cl T.a_spoil_prices R rfl h
theorem ci_meth {m : Str} {sp : Sp} {E : XK} {t : TA} {σ : L2.St} (R : RoadAt C H p A a) (hm : ∀ n t A, (rf n t A).lookup m = none) (h : t σ H fun vs H2 => sp (.ref p :: (vs ++ [])) H2 Q E) : rMethC C m sp E t σ (.ref p) H Q := ci_methF R.obj (hm _ _ _) h
end
theorem getD_ints {l : List Nat} (i : Nat) : (Haul.zlist l).getD i 0 = ((l.getD i 0 : Nat) : Int) := by
  unfold Haul.zlist
  rw [List.getD_eq_getElem?_getD, List.getElem?_map, List.getD_eq_getElem?_getD]
  cases l[i]? <;> rfl
theorem getD_prs {l : List (Option Nat)} {i : Nat} (h : i < l.length) : (prs l).getD i 0 = Haul.pr (l.getD i none) := by
  unfold prs
  rw [List.getD_eq_getElem?_getD, List.getElem?_map, List.getD_eq_getElem?_getD, List.getElem?_eq_getElem h]
  rfl
theorem ints_len (l : List Nat) : (Haul.zlist l).length = l.length := by simp [Haul.zlist]
theorem prs_len (l : List (Option Nat)) : (prs l).length = l.length := by simp [prs]
end
end Hl
end
section
namespace Hl
open PySem PySem.Spec PyProof.Rows L2
section
variable {P : Program} {w : World} {K : PySem.W.Frag} {mg : Str → Option Value} {base : Heap}
abbrev s_with_hauling : Stmt := top 11
theorem sc_with_hauling : FnScope ["table", "step_cost", "k", "cost"] ["table", "step_cost"] (defScope s_with_hauling) := ⟨rfl, rfl, rfl, by decide +kernel, rfl, by decide +kernel, by decide +kernel⟩
theorem ok_with_hauling {f : Addr} {fd : FuncData} (F : Fun K "with_hauling" "with_hauling" s_with_hauling f fd) {C : Addr} (T : Txt K mg C) : FnOk P w K mg base CX0 1 f fd ["table", "step_cost"] (spLI K (fun xs t => Haul.hauled t xs) (fun xs t => xs.length = 163 ∧ 0 ≤ t ∧ t ≤ 100)) := by
  have sc := sc_with_hauling
  refine F.ok sc (fun vs H Q E h => ?_) (fun cdv A outer s H vs Q E hr h => ?_)
  · obtain ⟨a, xs, p, rfl, _⟩ := h
    rfl
  · obtain ⟨a, xs, p, rfl, h1, ⟨h2, h3, h4⟩, k⟩ := h
    refine ⟨_, (pss_one (ps_ret (ce_LC rfl sc.nd (cpi_enum (K := K) rfl rfl T.n_enumerate (pa_cons (cv 0) pa_nil)) (own := [("k", 2), ("cost", 3)]) (blkOk_by (by show blkC ["table", "step_cost", "k", "cost"] (defScope s_with_hauling) _ _ = true; decide +kernel)) (fun _ _ _ _ _ => (cpg_tup (K := K) (n := 2) rfl rfl (cpgs_cons (pg_name (i := 2) sc.nd rfl (Or.inl rfl)) (cpgs_cons (pg_name (i := 3) sc.nd rfl (Or.inl rfl)) cpgs_nil)))) (fun _ _ _ _ _ => pts_nil) (fun _ _ _ _ _ => (pe_op (c_I0 op_add) (cv 3) (pe_op c_mul (cv 1) (pe_callB call_absC rfl T.n_abs boot_abs0 (pa_cons (pe_op (c_I0 op_sub) (cv 2) (pe_gi T.g_REACH)) pa_nil)))))))), ?_⟩
    refine ci_ienum h1 ?_
    refine ci_lcEnum (xs := xs) (fun i => xs.getD i 0 + p * (if (i : Int) - 81 < 0 then -((i : Int) - 81) else (i : Int) - 81)) h1 (by omega) (fun i H' T R hi hS hT hR => ?_) (fun H' D hS hD hL => ?_)
    · refine ci_gtup hT rfl ?_
      refine ⟨rfl, ?_⟩
      refine ci_mul (.inl ⟨by omega, by omega⟩) ?_
      exact hR _ Same.rfl
    · refine k H' D hS hD ?_
      rw [hL]
      congr 3
      unfold Haul.hauled
      apply List.ext_getElem?
      intro i
      rw [List.getElem?_map, List.getElem?_mapIdx]
      by_cases hi : i < xs.length
      · rw [List.getElem?_range hi, List.getElem?_eq_getElem hi]
        simp [List.getD_eq_getElem?_getD, List.getElem?_eq_getElem hi]
      · rw [List.getElem?_eq_none (by simpa using hi), List.getElem?_eq_none (by simpa using hi)]
        rfl
abbrev s_shifted : Stmt := top 14
theorem sc_shifted : FnScope ["table", "surplus", "size", "k"] ["table", "surplus"] (defScope s_shifted) := ⟨rfl, rfl, rfl, by decide +kernel, rfl, by decide +kernel, by decide +kernel⟩
theorem ok_shifted {f : Addr} {fd : FuncData} (F : Fun K "shifted" "shifted" s_shifted f fd) {C : Addr} (T : Txt K mg C) : FnOk P w K mg base CX0 1 f fd ["table", "surplus"] (spLI K (fun xs e => Haul.moved e xs) (fun xs e => xs.length = 163)) := by
  have sc := sc_shifted
  refine F.ok sc (fun vs H Q E h => ?_) (fun cdv A outer s H vs Q E hr h => ?_)
  · obtain ⟨a, xs, p, rfl, _⟩ := h
    rfl
  · obtain ⟨a, xs, p, rfl, h1, h2, k⟩ := h
    refine ⟨_, (pss_cons (ps_set (i := 2) sc.nd rfl (Or.inr rfl) (pe_callB (call_lenC (K := K) rfl) rfl T.n_len boot_len0 (pa_cons (cv 0) pa_nil)))
        (pss_one (ps_ret (ce_LC rfl sc.nd (cpi_range1 rfl T.n_range (pa_cons (cv 2) pa_nil)) (own := [("k", 3)]) (blkOk_by (by show blkC ["table", "surplus", "size", "k"] (defScope s_shifted) _ _ = true; decide +kernel)) (fun _ _ _ _ _ => (pg_name (i := 3) sc.nd rfl (Or.inl rfl))) (fun _ _ _ _ _ => pts_nil) (fun _ _ _ _ _ => (ce_ifExp (ct_chain (c_I0 op_le) (c_I0 op_lt) pe_int (pe_op (c_I0 op_add) (cv 3) (cv 1)) (cv 2)) (pe_ix (c_ix (K := K) rfl) (cv 0) (pe_op (c_I0 op_add) (cv 3) (cv 1)) (fun _ _ => rfl)) (pe_gi T.g_NEVER))))))), ?_⟩
    refine ci_len h1 ?_
    refine ci_rng1 (by omega) (by omega) ?_
    refine ci_lcRng (fun i => if 0 ≤ (i : Int) + p ∧ (i : Int) + p < xs.length then xs.getD ((i : Int) + p).toNat 0 else Haul.NEVER) (by omega) (fun i H' R hi hS hR => ?_) (fun H' D hS hD hL => ?_)
    · refine ⟨rfl, ?_⟩
      have q := hR _ Same.rfl
      refine ci_ite (fun c => ?_) (fun c => ?_)
      · refine ci_ite (fun c2 => ?_) (fun c2 => ?_)
        · refine ci_ix (h1.same hS) (by omega) (by omega) ?_
          rw [if_pos ⟨by omega, c2⟩] at q
          exact q
        · rw [if_neg (by omega)] at q
          exact q
      · rw [if_neg (by omega)] at q
        exact q
    · exact k H' D hS hD hL
end
end Hl
end
section
namespace Hl
open PySem PySem.Spec PyProof.Rows L2
section
variable {P : Program} {w : World} {K : PySem.W.Frag} {mg : Str → Option Value} {base : Heap}
abbrev s_with_borrowing : Stmt := top 12
theorem sc_with_borrowing : FnScope ["table", "price", "costs", "k"] ["table", "price"] (defScope s_with_borrowing) := ⟨rfl, rfl, rfl, by decide +kernel, rfl, by decide +kernel, by decide +kernel⟩
theorem ok_with_borrowing {f : Addr} {fd : FuncData} (F : Fun K "with_borrowing" "with_borrowing" s_with_borrowing f fd) {C : Addr} (T : Txt K mg C) : FnOk P w K mg base CX0 1 f fd ["table", "price"] (spLI K (fun xs p => Haul.bor p xs) (fun xs p => xs.length = 163)) := by
  have sc := sc_with_borrowing
  refine F.ok sc (fun vs H Q E h => ?_) (fun cdv A outer s H vs Q E hr h => ?_)
  · obtain ⟨a, xs, p, rfl, _⟩ := h
    rfl
  · obtain ⟨a, xs, p, rfl, h1, h2, k⟩ := h
    refine ⟨_, (pss_cons (ps_set (i := 2) sc.nd rfl (Or.inl rfl) (pe_callTy (call_listC (K := K) rfl) rfl T.n_list boot_list0 (pa_cons (cv 0) pa_nil)))
        (pss_cons (cs_if (ct_cmpR c_ne (cv 1) (pe_gi T.g_NO_PIT) (nomark _)) (pss_one (cs_for PassesOwn.never rfl (cpi_range3 rfl T.n_range (pa_cons (pe_op (c_I0 op_sub) (pe_callB (call_lenC (K := K) rfl) rfl T.n_len boot_len0 (pa_cons (cv 2) pa_nil)) pe_int) (pa_cons (pe_un c_neg pe_int) (pa_cons (pe_un c_neg pe_int) pa_nil)))) (pg_name (i := 3) sc.nd rfl (Or.inl rfl)) (pss_one (ps_asg (pe_callB (call_minC rfl) rfl T.n_min boot_min0 (pa_cons (pe_ix (c_ix (K := K) rfl) (cv 2) (cv 3) (fun _ _ => rfl)) (pa_cons (pe_op (c_I0 op_add) (pe_ix (c_ix (K := K) rfl) (cv 2) (pe_op (c_I0 op_add) (cv 3) pe_int) (fun _ _ => rfl)) (cv 1)) pa_nil))) (pg_sub (cv 2) (cv 3) c_set))))) pss_nil)
        (pss_one (ps_ret (cv 2))))), ?_⟩
    refine ci_listof h1 fun l hl => ?_
    have s1 : Same H (upd H l (.lst (xs.map V.int))) := Same.rfl.new hl
    simp only [Haul.bor] at k
    first | refine ci_ite ?_ ?_ | refine ci_iteN ?_ ?_
    · intro hp
      rw [if_neg hp] at k
      refine ci_for ?_
      refine ci_len (xs := xs) (IL.of upd_same) ?_
      refine ci_rng3 (n := 162) (by rw [h2]; exact ⟨by decide, by decide, by decide, by decide⟩) ?_
      refine for_rangeC (fun i σ H' => ∃ v : Option V, σ = [some (.ref a), some (.int p), some (.ref l), v] ∧ Same H H' ∧ H' l = some (.lst ((Haul.borAt p xs (162 - i)).map V.int))) ⟨none, rfl, s1, by rw [Haul.borAt_start p (n := 162) (by omega)]; exact upd_same⟩ ?_ ?_
      · rintro i σ H' hi ⟨v, rfl, s2, hL⟩
        have e : ((xs.length : Int) - 2 + (i : Nat) * (-1)) = ((161 - i : Nat) : Int) := by omega
        have hlen := Haul.borAt_len p xs (162 - i)
        rw [e]
        refine ci_ix (xs := Haul.borAt p xs (162 - i)) (IL.of hL) (by omega) (by omega) ?_
        refine ci_ix (xs := Haul.borAt p xs (162 - i)) (IL.of hL) (by omega) (by omega) ?_
        refine ci_set (xs := Haul.borAt p xs (162 - i)) hL (by omega) (by omega) ?_
        refine ⟨_, rfl, s2.re hl, ?_⟩
        rw [upd_same]
        have st := Haul.borAt_step p (xs := xs) (k := 161 - i) (by omega)
        rw [show 161 - i + 1 = 162 - i by omega] at st
        rw [show 162 - (i + 1) = 161 - i by omega, ← st]
        have e1 : (((161 - i : Nat) : Int)).toNat = 161 - i := by omega
        have e2 : (((161 - i : Nat) : Int) + 1).toNat = 162 - i := by omega
        rw [e1, e2]
        rfl
      · rintro σ H' ⟨v, rfl, s2, hL⟩
        refine k H' l s2 hl ?_
        rw [hL, ← Haul.borAt_end]
    · intro hp
      rw [if_pos (by omega)] at k
      exact k _ l s1 hl upd_same
abbrev s_with_spoiling : Stmt := top 13
theorem sc_with_spoiling : FnScope ["table", "price", "costs", "k"] ["table", "price"] (defScope s_with_spoiling) := ⟨rfl, rfl, rfl, by decide +kernel, rfl, by decide +kernel, by decide +kernel⟩
theorem ok_with_spoiling {f : Addr} {fd : FuncData} (F : Fun K "with_spoiling" "with_spoiling" s_with_spoiling f fd) {C : Addr} (T : Txt K mg C) : FnOk P w K mg base CX0 1 f fd ["table", "price"] (spLI K (fun xs p => Haul.spo p xs) (fun xs p => xs.length = 163)) := by
  have sc := sc_with_spoiling
  refine F.ok sc (fun vs H Q E h => ?_) (fun cdv A outer s H vs Q E hr h => ?_)
  · obtain ⟨a, xs, p, rfl, _⟩ := h
    rfl
  · obtain ⟨a, xs, p, rfl, h1, h2, k⟩ := h
    refine ⟨_, (pss_cons (ps_set (i := 2) sc.nd rfl (Or.inl rfl) (pe_callTy (call_listC (K := K) rfl) rfl T.n_list boot_list0 (pa_cons (cv 0) pa_nil)))
        (pss_cons (cs_if (ct_cmpR c_ne (cv 1) (pe_gi T.g_NO_PIT) (nomark _)) (pss_one (cs_for PassesOwn.never rfl (cpi_range2 rfl T.n_range (pa_cons pe_int (pa_cons (pe_callB (call_lenC (K := K) rfl) rfl T.n_len boot_len0 (pa_cons (cv 2) pa_nil)) pa_nil))) (pg_name (i := 3) sc.nd rfl (Or.inl rfl)) (pss_one (ps_asg (pe_callB (call_minC rfl) rfl T.n_min boot_min0 (pa_cons (pe_ix (c_ix (K := K) rfl) (cv 2) (cv 3) (fun _ _ => rfl)) (pa_cons (pe_op (c_I0 op_add) (pe_ix (c_ix (K := K) rfl) (cv 2) (pe_op (c_I0 op_sub) (cv 3) pe_int) (fun _ _ => rfl)) (cv 1)) pa_nil))) (pg_sub (cv 2) (cv 3) c_set))))) pss_nil)
        (pss_one (ps_ret (cv 2))))), ?_⟩
    refine ci_listof h1 fun l hl => ?_
    have s1 : Same H (upd H l (.lst (xs.map V.int))) := Same.rfl.new hl
    simp only [Haul.spo] at k
    first | refine ci_ite ?_ ?_ | refine ci_iteN ?_ ?_
    · intro hp
      rw [if_neg hp] at k
      refine ci_for ?_
      refine ci_len (xs := xs) (IL.of upd_same) ?_
      refine ci_rng2 ⟨by omega, by omega, by omega, by omega⟩ ?_
      refine for_range (fun i σ H' => ∃ v : Option V, σ = [some (.ref a), some (.int p), some (.ref l), v] ∧ Same H H' ∧ H' l = some (.lst ((Haul.spoAt p xs (i + 1)).map V.int))) ⟨none, rfl, s1, by rw [Haul.spoAt_start]; exact upd_same⟩ ?_ ?_
      · rintro i σ H' hi ⟨v, rfl, s2, hL⟩
        have hlen := Haul.spoAt_len p xs (i + 1)
        have e : ((1 : Int) + (i : Nat)) = ((i + 1 : Nat) : Int) := by omega
        rw [e]
        refine ci_ix (xs := Haul.spoAt p xs (i + 1)) (IL.of hL) (by omega) (by omega) ?_
        refine ci_ix (xs := Haul.spoAt p xs (i + 1)) (IL.of hL) (by omega) (by omega) ?_
        refine ci_set (xs := Haul.spoAt p xs (i + 1)) hL (by omega) (by omega) ?_
        refine ⟨_, rfl, s2.re hl, ?_⟩
        rw [upd_same]
        have st := Haul.spoAt_step p (xs := xs) (k := i) (by omega)
        rw [← st]
        have e1 : (((i + 1 : Nat) : Int)).toNat = i + 1 := by omega
        have e2 : (((i + 1 : Nat) : Int) - 1).toNat = i := by omega
        rw [e1, e2]
        rfl
      · rintro σ H' ⟨v, rfl, s2, hL⟩
        refine k H' l s2 hl ?_
        rw [hL, ← Haul.spoAt_end, show ((xs.length : Int) - 1).toNat + 1 = xs.length by omega]
    · intro hp
      rw [if_pos (by omega)] at k
      exact k _ l s1 hl upd_same
end
end Hl
end
section
namespace Hl
open PySem PySem.Spec PyProof.Rows L2
section
variable {P : Program} {w : World} {K : PySem.W.Frag} {mg : Str → Option Value} {base : Heap}
abbrev s_surplus : Stmt := inClass (top 2) 3
theorem sc_surplus : FnScope ["self", "i"] ["self", "i"] (defScope s_surplus) := ⟨rfl, rfl, rfl, by decide +kernel, rfl, by decide +kernel, by decide +kernel⟩
def spRI (C : Addr) (F : Kv364.Abs → Nat → Int) : Sp := fun vs H Q _ => ∃ (p : Addr) (A : Ads) (a : Kv364.Abs) (i : Nat), vs = [.ref p, .int i] ∧ RoadAt C H p A a ∧ Haul.Ok a ∧ i < a.n ∧ Q (.int (F a i)) H
theorem ok_surplus {f : Addr} {fd : FuncData} {C : Addr} (F : Fun K "surplus" "Road.surplus" s_surplus f fd) (T : Txt K mg C) : FnOk P w K mg base CX0 1 f fd ["self", "i"] (spRI C fun a i => (a.spot i).extra) := by
  have sc := sc_surplus
  refine F.ok sc (fun vs H Q E h => ?_) (fun cdv A outer s H vs Q E hr h => ?_)
  · obtain ⟨p, B, a, i, rfl, _⟩ := h
    rfl
  · obtain ⟨p, B, a, i, rfl, R, O, hi, k⟩ := h
    have e1 : a.have_.length = a.n := rfl
    have e2 := O.need
    refine ⟨_, (pss_one (ps_ret (pe_op (c_I0 op_sub) (pe_ix (c_ix (K := K) rfl) (ce_fld (K := K) rfl (cv 0) rfl) (cv 1) (fun _ _ => rfl)) (pe_ix (c_ix (K := K) rfl) (ce_fld (K := K) rfl (cv 0) rfl) (cv 1) (fun _ _ => rfl))))), ?_⟩
    refine ci_had T R ?_
    refine ci_ix (xs := Haul.zlist a.have_) (IL.of R.had) (by omega) (by rw [ints_len]; omega) ?_
    refine ci_needed T R ?_
    refine ci_ix (xs := Haul.zlist a.need) (IL.of R.needed) (by omega) (by rw [ints_len]; omega) ?_
    rw [getD_ints, getD_ints, Int.toNat_natCast]
    exact k
abbrev s_pit_cost : Stmt := top 17
theorem sc_pit_cost : FnScope ["price", "amount"] ["price", "amount"] (defScope s_pit_cost) := ⟨rfl, rfl, rfl, by decide +kernel, rfl, by decide +kernel, by decide +kernel⟩
def pitCost (p x : Int) : Int := if p = -1 then Haul.NEVER else p * x
def sp_pit_cost : Sp := fun vs H Q _ => ∃ (p x : Int), vs = [.int p, .int x] ∧ (-100 ≤ p ∧ p ≤ 100) ∧ Q (.int (pitCost p x)) H
theorem ok_pit_cost {f : Addr} {fd : FuncData} {C : Addr} (F : Fun K "pit_cost" "pit_cost" s_pit_cost f fd) (T : Txt K mg C) : FnOk P w K mg base CX0 1 f fd ["price", "amount"] sp_pit_cost := by
  have sc := sc_pit_cost
  refine F.ok sc (fun vs H Q E h => ?_) (fun cdv A outer s H vs Q E hr h => ?_)
  · obtain ⟨p, x, rfl, _⟩ := h
    rfl
  · obtain ⟨p, x, rfl, h1, k⟩ := h
    refine ⟨_, (pss_one (ps_ret (ce_ifExp (ct_cmpR c_eq (cv 0) (pe_gi T.g_NO_PIT) (nomark _)) (pe_gi T.g_NEVER) (pe_op c_mul (cv 0) (cv 1))))), ?_⟩
    unfold pitCost at k
    first | refine ci_ite ?_ ?_ | refine ci_iteN ?_ ?_
    · intro e
      rw [if_pos e] at k
      exact k
    · intro e
      rw [if_neg e] at k
      exact ci_mul (.inl (by omega)) k
theorem pr_bounds {a : Kv364.Abs} (O : Haul.Ok a) (i : Nat) : (-100 ≤ Haul.pr (a.borrow.getD i none) ∧ Haul.pr (a.borrow.getD i none) ≤ 100) ∧ (-100 ≤ Haul.pr (a.spoil.getD i none) ∧ Haul.pr (a.spoil.getD i none) ≤ 100) := by
  constructor
  · cases e : a.borrow.getD i none with
    | none => exact ⟨by decide, by decide⟩
    | some p => have := Haul.getD_some O.b50 e; exact ⟨by show -100 ≤ (p : Int); omega, by show (p : Int) ≤ 100; omega⟩
  · cases e : a.spoil.getD i none with
    | none => exact ⟨by decide, by decide⟩
    | some p => have := Haul.getD_some O.s50 e; exact ⟨by show -100 ≤ (p : Int); omega, by show (p : Int) ≤ 100; omega⟩
abbrev s_onward_cost : Stmt := top 16
theorem sc_onward_cost : FnScope ["road", "i", "there", "onward", "hauling"] ["road", "i", "there", "onward"] (defScope s_onward_cost) := ⟨rfl, rfl, rfl, by decide +kernel, rfl, by decide +kernel, by decide +kernel⟩
def sp_onward_cost (C : Addr) : Sp := fun vs H Q _ => ∃ (p : Addr) (A : Ads) (a : Kv364.Abs) (i : Nat) (h g : Int), vs = [.ref p, .int i, .int h, .int g] ∧ RoadAt C H p A a ∧ Haul.Ok a ∧ i < a.n ∧ Q (.int (Haul.onw a.step (a.spot i) h g)) H
structure Calls1 (P : Program) (w : World) (K : PySem.W.Frag) (mg : Str → Option Value) (base : Heap) : Prop where
  pit_cost : Cal P w K mg base "pit_cost" 1 ["price", "amount"] sp_pit_cost
theorem ok_onward_cost {f : Addr} {fd : FuncData} {D : Addr} (F : Fun K "onward_cost" "onward_cost" s_onward_cost f fd) (T : Txt K mg D) (C : Calls1 P w K mg base) : FnOk P w K mg base CX0 2 f fd ["road", "i", "there", "onward"] (sp_onward_cost D) := by
  have sc := sc_onward_cost
  refine F.ok sc (fun vs H Q E h => ?_) (fun cdv A outer s H vs Q E hr h => ?_)
  · obtain ⟨p, B, a, i, h, g, rfl, _⟩ := h
    rfl
  · obtain ⟨p, B, a, i, h, g, rfl, R, O, hi, k⟩ := h
    have pb := pr_bounds O i
    have t10 := O.t10
    refine ⟨_, (pss_cons (ps_set (i := 4) sc.nd rfl (Or.inl rfl) (pe_op c_mul (ce_fld (K := K) rfl (cv 0) rfl) (pe_callB call_absC rfl T.n_abs boot_abs0 (pa_cons (cv 3) pa_nil))))
        (pss_cons (cs_if (ct_cmpR (c_I0 op_gt) (cv 3) (cv 2) (nomark _)) (pss_one (ps_ret (pe_op (c_I0 op_add) (cv 4) (pe_cal C.pit_cost hr (pa_cons (pe_ix (c_ix (K := K) rfl) (ce_fld (K := K) rfl (cv 0) rfl) (cv 1) (fun _ _ => rfl)) (pa_cons (pe_op (c_I0 op_sub) (cv 3) (cv 2)) pa_nil)))))) pss_nil)
        (pss_cons (cs_if (ct_cmpR (c_I0 op_lt) (cv 3) (cv 2) (nomark _)) (pss_one (ps_ret (pe_op (c_I0 op_add) (cv 4) (pe_cal C.pit_cost hr (pa_cons (pe_ix (c_ix (K := K) rfl) (ce_fld (K := K) rfl (cv 0) rfl) (cv 1) (fun _ _ => rfl)) (pa_cons (pe_op (c_I0 op_sub) (cv 2) (cv 3)) pa_nil)))))) pss_nil)
        (pss_one (ps_ret (cv 4)))))), ?_⟩
    refine ci_step T R ?_
    refine ci_mul (.inl ⟨by omega, by omega⟩) ?_
    have en : (if g < 0 then -g else g) = ((g.natAbs : Nat) : Int) := by split <;> omega
    rw [en]
    unfold Haul.onw at k
    first | refine ci_ite ?_ ?_ | refine ci_iteN ?_ ?_
    · intro c1
      rw [if_pos c1] at k
      refine ci_bor T R ?_
      refine ci_ix (xs := prs a.borrow) (IL.of R.bor) (by omega) (by rw [prs_len, O.borrow]; omega) ?_
      rw [Int.toNat_natCast, getD_prs (by rw [O.borrow]; omega)]
      refine ⟨_, _, rfl, pb.1, ?_⟩
      exact k
    · intro c1
      rw [if_neg c1] at k
      first | refine ci_ite ?_ ?_ | refine ci_iteN ?_ ?_
      · intro c2
        rw [if_pos c2] at k
        refine ci_spo T R ?_
        refine ci_ix (xs := prs a.spoil) (IL.of R.spo) (by omega) (by rw [prs_len, O.spoil]; omega) ?_
        rw [Int.toNat_natCast, getD_prs (by rw [O.spoil]; omega)]
        refine ⟨_, _, rfl, pb.2, ?_⟩
        exact k
      · intro c2
        rw [if_neg c2, Int.add_zero] at k
        exact k
end
end Hl
end
section
namespace Hl
open PySem PySem.Spec PyProof.Rows L2
section
variable {P : Program} {w : World} {K : PySem.W.Frag} {mg : Str → Option Value} {base : Heap}
def tabs (a : Kv364.Abs) : List (List Int) := (List.range (a.n + 1)).map fun i => Haul.tab a.step (a.spots.drop i)
structure TabsAt (H : Hp) (l : Addr) (as : List Addr) (Ts : List (List Int)) : Prop where
  lst : H l = some (.lst (as.map V.ref))
  len : as.length = Ts.length
  at_ : ∀ j b, as[j]? = some b → H b = some (.lst ((Ts.getD j []).map V.int))
theorem TabsAt.same {H H' : Hp} {l : Addr} {as : List Addr} {Ts : List (List Int)} (R : TabsAt H l as Ts) (e : Same H H') : TabsAt H' l as Ts := ⟨e _ _ R.lst, R.len, fun j b h => e _ _ (R.at_ j b h)⟩
theorem tabs_len (a : Kv364.Abs) : (tabs a).length = a.n + 1 := by simp [tabs]
theorem tabs_at {a : Kv364.Abs} {i : Nat} (h : i ≤ a.n) : (tabs a).getD i [] = Haul.tab a.step (a.spots.drop i) := by
  unfold tabs
  rw [List.getD_eq_getElem?_getD, List.getElem?_map, List.getElem?_range (by omega)]
  rfl
theorem spots_drop {a : Kv364.Abs} {i : Nat} (h : i < a.n) : a.spots.drop i = a.spot i :: a.spots.drop (i + 1) := by
  have hl := Haul.spots_len a
  rw [List.drop_eq_getElem_cons (by omega)]
  congr 1
  simp [Kv364.Abs.spots]
def sp_rest_costs (C : Addr) : Sp := fun vs H Q _ => ∃ (p : Addr) (A : Ads) (a : Kv364.Abs), vs = [.ref p] ∧ RoadAt C H p A a ∧ Haul.Ok a ∧ ∀ (H' : Hp) (l : Addr) (as : List Addr), Same H H' → TabsAt H' l as (tabs a) → Q (.ref l) H'
structure Calls2 (P : Program) (w : World) (K : PySem.W.Frag) (mg : Str → Option Value) (base : Heap) : Prop where
  with_hauling : Cal P w K mg base "with_hauling" 1 ["table", "step_cost"] (spLI K (fun xs t => Haul.hauled t xs) (fun xs t => xs.length = 163 ∧ 0 ≤ t ∧ t ≤ 100))
  with_borrowing : Cal P w K mg base "with_borrowing" 1 ["table", "price"] (spLI K (fun xs p => Haul.bor p xs) (fun xs p => xs.length = 163))
  with_spoiling : Cal P w K mg base "with_spoiling" 1 ["table", "price"] (spLI K (fun xs p => Haul.spo p xs) (fun xs p => xs.length = 163))
  shifted : Cal P w K mg base "shifted" 1 ["table", "surplus"] (spLI K (fun xs e => Haul.moved e xs) (fun xs e => xs.length = 163))
structure Meths1 (P : Program) (w : World) (K : PySem.W.Frag) (mg : Str → Option Value) (base : Heap) (C : Addr) : Prop where
  surplus : MCal P w K mg base C "surplus" 1 ["self", "i"] (spRI C fun a i => (a.spot i).extra)
structure Made (a : Kv364.Abs) (H : Hp) (l : Addr) (as : List Addr) (b : Addr) (j : Nat) : Prop where
  lst : H l = some (.lst (as.map V.ref))
  len : as.length = j + 1
  last : as[j]? = some b
  at_ : ∀ q c, as[q]? = some c → H c = some (.lst ((Haul.tab a.step (a.spots.drop (a.n - q))).map V.int))
theorem rg_down {n : Nat} (h : n ≤ 8) : RgC ((n : Int) - 1) (-1) (-1) n := by
  have : n = 0 ∨ n = 1 ∨ n = 2 ∨ n = 3 ∨ n = 4 ∨ n = 5 ∨ n = 6 ∨ n = 7 ∨ n = 8 := by omega
  rcases this with rfl | rfl | rfl | rfl | rfl | rfl | rfl | rfl | rfl <;> exact ⟨by decide, by decide, by decide, by decide⟩
theorem lst_ne {as : List Addr} {xs : List Int} (h : 0 < as.length) : HO.lst (as.map V.ref) ≠ HO.lst (xs.map V.int) := by
  intro e
  cases as with
  | nil => simp at h
  | cons b as =>
    cases xs with
    | nil => simp at e
    | cons x xs => simp at e
abbrev s_rest_costs : Stmt := top 10
theorem sc_rest_costs : FnScope ["road", "table", "tables", "i"] ["road"] (defScope s_rest_costs) := ⟨rfl, rfl, rfl, by decide +kernel, rfl, by decide +kernel, by decide +kernel⟩
theorem ok_rest_costs {f : Addr} {fd : FuncData} {D : Addr} (F : Fun K "rest_costs" "rest_costs" s_rest_costs f fd) (T : Txt K mg D) (C : Calls2 P w K mg base) (M : Meths1 P w K mg base D) : FnOk P w K mg base CX0 2 f fd ["road"] (sp_rest_costs D) := by
  have sc := sc_rest_costs
  refine F.ok sc (fun vs H Q E h => ?_) (fun cdv A outer s H vs Q E hr h => ?_)
  · obtain ⟨p, B, a, rfl, _⟩ := h
    rfl
  · obtain ⟨p, B, a, rfl, R, O, k⟩ := h
    have n2 := O.n2
    have n8 := O.n8
    have t10 := O.t10
    refine ⟨_, (pss_cons (ps_set (i := 1) sc.nd rfl (Or.inl rfl) (pe_op c_rep (ce_lst (pa_cons (pe_gi T.g_NEVER) pa_nil)) (pe_op (c_I0 op_add) (pe_op c_mul pe_int (pe_gi T.g_REACH)) pe_int)))
        (pss_cons (ps_asg pe_int (pg_sub (cv 1) (pe_gi T.g_REACH) c_set))
        (pss_cons (ps_set (i := 2) sc.nd rfl (Or.inl rfl) (ce_lst (pa_cons (cv 1) pa_nil)))
        (pss_cons (cs_for PassesOwn.never rfl (cpi_range3 rfl T.n_range (pa_cons (pe_op (c_I0 op_sub) (ce_fld (K := K) rfl (cv 0) rfl) pe_int) (pa_cons (pe_un c_neg pe_int) (pa_cons (pe_un c_neg pe_int) pa_nil)))) (pg_name (i := 3) sc.nd rfl (Or.inl rfl)) (pss_cons (ps_set (i := 1) sc.nd rfl (Or.inl rfl) (pe_cal C.with_hauling hr (pa_cons (cv 1) (pa_cons (ce_fld (K := K) rfl (cv 0) rfl) pa_nil))))
        (pss_cons (ps_set (i := 1) sc.nd rfl (Or.inl rfl) (pe_cal C.with_borrowing hr (pa_cons (cv 1) (pa_cons (pe_ix (c_ix (K := K) rfl) (ce_fld (K := K) rfl (cv 0) rfl) (cv 3) (fun _ _ => rfl)) pa_nil))))
        (pss_cons (ps_set (i := 1) sc.nd rfl (Or.inl rfl) (pe_cal C.with_spoiling hr (pa_cons (cv 1) (pa_cons (pe_ix (c_ix (K := K) rfl) (ce_fld (K := K) rfl (cv 0) rfl) (cv 3) (fun _ _ => rfl)) pa_nil))))
        (pss_cons (ps_set (i := 1) sc.nd rfl (Or.inl rfl) (pe_cal C.shifted hr (pa_cons (cv 1) (pa_cons (ce_mcal M.surplus hr (cv 0) (pa_cons (cv 3) pa_nil)) pa_nil))))
        (pss_one (ps_expr (ce_bm (K := K) rfl PySem.F.slot_list_append PySem.F.type_list_append cmt_append (cv 2) (pa_cons (cv 1) pa_nil)))))))))
        (pss_cons (ps_expr (ce_bm0 (K := K) rfl PySem.F.slot_list_reverse PySem.F.type_list_reverse cmt_reverse (cv 2)))
        (pss_one (ps_ret (cv 2)))))))), ?_⟩
    refine ci_lst (by decide) fun p0 hp0 => ?_
    refine ci_mul (.inl ⟨by omega, by omega⟩) ?_
    refine ci_rep upd_same (by decide) (by decide) fun p1 hp1 => ?_
    have e1 : List.replicate (2 * 81 + 1 : Int).toNat (V.int 1000000) = (List.replicate 163 Haul.NEVER).map V.int := by rw [List.map_replicate]; rfl
    rw [e1]
    refine ci_set (xs := List.replicate 163 Haul.NEVER) upd_same (by decide) (by rw [List.length_replicate]; decide) ?_
    rw [upd_upd]
    have e2 : (List.replicate 163 Haul.NEVER).set (81 : Int).toNat 0 = Haul.base := rfl
    rw [e2]
    have s1 : Same H (upd (upd H p0 (.lst [V.int 1000000])) p1 (.lst (Haul.base.map V.int))) := (Same.rfl.new hp0).new hp1
    refine ci_lst (by simp) fun l hl => ?_
    have s2 := s1.new (o := .lst [V.ref p1]) hl
    have fl : H l = none := s1.free hl
    have fp1 : H p1 = none := (Same.rfl.new hp0).free hp1
    refine ci_for ?_
    refine ci_stations T (R.same s2) ?_
    refine ci_rng3 (n := a.n) (rg_down n8) ?_
    refine for_rangeC (fun j σ H' => ∃ (b : Addr) (as : List Addr) (v : Option V), σ = [some (.ref p), some (.ref b), some (.ref l), v] ∧ Same H H' ∧ Made a H' l as b j) ⟨p1, [p1], none, rfl, s2, ?_⟩ ?_ ?_
    · refine ⟨upd_same, rfl, rfl, fun q c hc => ?_⟩
      cases q with
      | zero =>
        have e : p1 = c := Option.some.inj hc
        subst e
        rw [upd_ne (ne_of_none upd_same hl), upd_same, Nat.sub_zero, List.drop_eq_nil_of_le (by rw [Haul.spots_len]; exact Nat.le_refl _)]
        rfl
      | succ q => simp at hc
    · rintro j σ H' hj ⟨b, as, v, rfl, s3, Md⟩
      obtain ⟨i, ei⟩ : ∃ i : Nat, i = a.n - 1 - j := ⟨_, rfl⟩
      have hi : i < a.n := by omega
      have e : ((a.n : Int) - 1 + (j : Nat) * (-1)) = (i : Int) := by omega
      rw [e]
      have hb := Md.at_ j b Md.last
      rw [show a.n - j = i + 1 by omega] at hb
      have hz := Haul.tab_len a.step (a.spots.drop (i + 1))
      refine ci_step T (R.same s3) ?_
      refine ⟨b, _, _, rfl, IL.of hb, ⟨hz, by omega, by omega⟩, fun H1 l1 s4 f1 hL1 => ?_⟩
      refine ci_bor T (R.same (s3.trans s4)) ?_
      refine ci_ix (xs := prs a.borrow) (IL.of (R.same (s3.trans s4)).bor) (by omega) (by rw [prs_len, O.borrow]; omega) ?_
      refine ⟨l1, _, _, rfl, IL.of hL1, by dsimp only; rw [Haul.hauled_len]; exact hz, fun H2 l2 s5 f2 hL2 => ?_⟩
      refine ci_spo T (R.same ((s3.trans s4).trans s5)) ?_
      refine ci_ix (xs := prs a.spoil) (IL.of (R.same ((s3.trans s4).trans s5)).spo) (by omega) (by rw [prs_len, O.spoil]; omega) ?_
      refine ⟨l2, _, _, rfl, IL.of hL2, by dsimp only; rw [Haul.bor_len, Haul.hauled_len]; exact hz, fun H3 l3 s6 f3 hL3 => ?_⟩
      refine ci_meth (R.same (((s3.trans s4).trans s5).trans s6)) (fun _ _ _ => rfl) ?_
      refine ⟨p, B, a, i, rfl, R.same (((s3.trans s4).trans s5).trans s6), O, hi, ?_⟩
      refine ⟨l3, _, _, rfl, IL.of hL3, by dsimp only; rw [Haul.spo_len, Haul.bor_len, Haul.hauled_len]; exact hz, fun H4 l4 s7 f4 hL4 => ?_⟩
      have sa : Same H' H4 := ((s4.trans s5).trans s6).trans s7
      refine ci_bm (sa _ _ Md.lst) ?_
      refine ci_app (sa _ _ Md.lst) (by rw [List.length_map, Md.len]; omega) ?_
      refine ⟨l4, as ++ [l4], _, rfl, (s3.trans sa).re fl, ?_⟩
      have hT : H4 l4 = some (.lst ((Haul.tab a.step (a.spots.drop i)).map V.int)) := by
        rw [hL4, spots_drop hi, Int.toNat_natCast, getD_prs (by rw [O.borrow]; omega), getD_prs (by rw [O.spoil]; omega)]
        rfl
      refine ⟨by rw [upd_same, List.map_append]; rfl, by rw [List.length_append, Md.len]; rfl, by rw [List.getElem?_append_right (by rw [Md.len]; exact Nat.le_refl _), Md.len, Nat.sub_self]; rfl, fun q c hc => ?_⟩
      have hc2 : H4 c = some (.lst ((Haul.tab a.step (a.spots.drop (a.n - q))).map V.int)) := by
        by_cases hq : q < as.length
        · rw [List.getElem?_append_left hq] at hc
          exact sa _ _ (Md.at_ q c hc)
        · have hq2 := (List.getElem?_eq_some_iff.mp hc).1
          rw [List.length_append, List.length_singleton] at hq2
          have eq : q = as.length := by omega
          rw [eq, List.getElem?_append_right (Nat.le_refl _), Nat.sub_self] at hc
          have e : l4 = c := Option.some.inj hc
          rw [← e, eq, Md.len, show a.n - (j + 1) = i by omega]
          exact hT
      rw [upd_ne (ne_of hc2 (sa _ _ Md.lst) (lst_ne (by rw [Md.len]; omega)).symm)]
      exact hc2
    · rintro σ H' ⟨b, as, v, rfl, s3, Md⟩
      refine ci_bm Md.lst ?_
      refine ci_rev Md.lst ?_
      refine k _ l as.reverse (s3.re fl) ⟨by rw [upd_same, List.map_reverse], by rw [List.length_reverse, Md.len, tabs_len], fun j c hc => ?_⟩
      have hlen := Md.len
      have hj := (List.getElem?_eq_some_iff.mp hc).1
      rw [List.length_reverse] at hj
      rw [List.getElem?_reverse hj] at hc
      have hc2 := Md.at_ _ c hc
      rw [upd_ne (ne_of hc2 Md.lst (lst_ne (by omega)).symm), hc2, tabs_at (by omega), show a.n - (as.length - 1 - j) = j by omega]
end
end Hl
end
section
namespace Hl
open PySem PySem.Spec PyProof.Rows L2
local macro_rules | `(tactic| walk_at "mono") => `(tactic| repeat' (first
  | exact me_cvar | exact me_c | exact ma_nil | exact mr_cI0 | exact mr_cNe | exact mr_cix | exact ml_clen
  | with_reducible refine me_op ?_ ?_ ?_ | with_reducible refine me_un ?_ ?_ | with_reducible refine me_cfld ?_ | with_reducible refine me_cb ?_ ?_ | with_reducible refine me_call ?_ ?_
  | with_reducible refine ma_cons ?_ ?_ | with_reducible refine mt_ctest ?_ | with_reducible refine mt_cand ?_ ?_))
section
variable {P : Program} {w : World} {K : PySem.W.Frag} {mg : Str → Option Value} {base : Heap}
theorem TabsAt.get {H : Hp} {l : Addr} {as : List Addr} {a : Kv364.Abs} (TA : TabsAt H l as (tabs a)) {i : Nat} (h : i ≤ a.n) : ∃ b, as[i]? = some b ∧ H b = some (.lst ((Haul.tab a.step (a.spots.drop i)).map V.int)) := by
  have hl := TA.len
  rw [tabs_len] at hl
  refine ⟨as[i]'(by omega), List.getElem?_eq_getElem (by omega), ?_⟩
  have := TA.at_ i _ (List.getElem?_eq_getElem (by omega))
  rw [tabs_at h] at this
  exact this
structure Calls3 (P : Program) (w : World) (K : PySem.W.Frag) (mg : Str → Option Value) (base : Heap) (D : Addr) : Prop where
  rest_costs : Cal P w K mg base "rest_costs" 2 ["road"] (sp_rest_costs D)
  onward_cost : Cal P w K mg base "onward_cost" 2 ["road", "i", "there", "onward"] (sp_onward_cost D)
def spRN (D : Addr) (ok : Kv364.Abs → Prop) (F : Kv364.Abs → Int) : Sp := fun vs H Q _ => ∃ (p : Addr) (A : Ads) (a : Kv364.Abs), vs = [.ref p] ∧ RoadAt D H p A a ∧ Haul.Ok a ∧ ok a ∧ ∀ H', Same H H' → Q (.int (F a)) H'
abbrev s_least_cost : Stmt := top 6
theorem sc_least_cost : FnScope ["road"] ["road"] (defScope s_least_cost) := ⟨rfl, rfl, rfl, by decide +kernel, rfl, by decide +kernel, by decide +kernel⟩
theorem ok_least_cost {f : Addr} {fd : FuncData} {D : Addr} (F : Fun K "least_cost" "least_cost" s_least_cost f fd) (T : Txt K mg D) (C : Calls3 P w K mg base D) : FnOk P w K mg base CX0 3 f fd ["road"] (spRN D (fun _ => True) fun a => Haul.val (Haul.tab a.step a.spots) 0) := by
  have sc := sc_least_cost
  refine F.ok sc (fun vs H Q E h => ?_) (fun cdv A outer s H vs Q E hr h => ?_)
  · obtain ⟨p, B, a, rfl, _⟩ := h
    rfl
  · obtain ⟨p, B, a, rfl, R, O, _, k⟩ := h
    refine ⟨_, (pss_one (ps_ret (pe_ix (c_ix (K := K) rfl) (pe_ix (c_ix (K := K) rfl) (pe_cal C.rest_costs hr (pa_cons (cv 0) pa_nil)) pe_int (fun _ _ => rfl)) (pe_gi T.g_REACH) (fun _ _ => rfl)))), ?_⟩
    refine ⟨p, B, a, rfl, R, O, fun H1 l as s1 TA => ?_⟩
    obtain ⟨b, hb, hT⟩ := TA.get (i := 0) (Nat.zero_le _)
    rw [List.drop_zero] at hT
    have hz := Haul.tab_len a.step a.spots
    refine ci_ixR TA.lst (by decide) hb ?_
    refine ci_ix (IL.of hT) (by decide) (by rw [hz]; decide) ?_
    exact k H1 s1
abbrev s_first_onward : Stmt := top 15
theorem sc_first_onward : FnScope ["road", "i", "came", "tables", "there", "least", "onward"] ["road", "i", "came", "tables"] (defScope s_first_onward) := ⟨rfl, rfl, rfl, by decide +kernel, rfl, by decide +kernel, by decide +kernel⟩
def sp_first_onward (D : Addr) : Sp := fun vs H Q _ => ∃ (p : Addr) (A : Ads) (a : Kv364.Abs) (i : Nat) (f : Int) (l : Addr) (as : List Addr) (g : Int), vs = [.ref p, .int i, .int f, .ref l] ∧ RoadAt D H p A a ∧ Haul.Ok a ∧ i < a.n ∧ (-81 ≤ f ∧ f ≤ 81) ∧ TabsAt H l as (tabs a) ∧ (-81 ≤ g ∧ g ≤ 81) ∧
  Haul.Keeps a.step (a.spot i) (a.spots.drop (i + 1)) f g ∧ (∀ g', -81 ≤ g' → g' < g → ¬ Haul.Keeps a.step (a.spot i) (a.spots.drop (i + 1)) f g') ∧ Q (.int g) H
theorem ok_first_onward {f : Addr} {fd : FuncData} {D : Addr} (F : Fun K "first_onward" "first_onward" s_first_onward f fd) (T : Txt K mg D) (C : Calls3 P w K mg base D) (M : Meths1 P w K mg base D) : FnOk P w K mg base CX0 3 f fd ["road", "i", "came", "tables"] (sp_first_onward D) := by
  have sc := sc_first_onward
  refine F.ok sc (fun vs H Q E h => ?_) (fun cdv A outer s H vs Q E hr h => ?_)
  · obtain ⟨p, B, a, i, f, l, as, g, rfl, _⟩ := h
    rfl
  · obtain ⟨p, B, a, i, c, l, as, g, rfl, R, O, hi, hc, TA, hg, kp, no, k⟩ := h
    obtain ⟨b1, hb1, hT1⟩ := TA.get (i := i) (by omega)
    obtain ⟨b2, hb2, hT2⟩ := TA.get (i := i + 1) (by omega)
    have hz1 := Haul.tab_len a.step (a.spots.drop i)
    have hz2 := Haul.tab_len a.step (a.spots.drop (i + 1))
    refine ⟨_, (pss_cons (ps_set (i := 4) sc.nd rfl (Or.inl rfl) (pe_op (c_I0 op_add) (cv 2) (ce_mcal M.surplus hr (cv 0) (pa_cons (cv 1) pa_nil))))
        (pss_cons (ps_set (i := 5) sc.nd rfl (Or.inl rfl) (pe_ix (c_ix (K := K) rfl) (pe_ix (c_ix (K := K) rfl) (cv 3) (cv 1) (fun _ _ => rfl)) (pe_op (c_I0 op_add) (cv 2) (pe_gi T.g_REACH)) (fun _ _ => rfl)))
        (pss_cons (ps_set (i := 6) sc.nd rfl (Or.inl rfl) (pe_un c_neg (pe_gi T.g_REACH)))
        (pss_cons (cs_while PassesOwn.never (ct_cmpR c_ne (pe_op (c_I0 op_add) (pe_cal C.onward_cost hr (pa_cons (cv 0) (pa_cons (cv 1) (pa_cons (cv 4) (pa_cons (cv 6) pa_nil))))) (pe_ix (c_ix (K := K) rfl) (pe_ix (c_ix (K := K) rfl) (cv 3) (pe_op (c_I0 op_add) (cv 1) pe_int) (fun _ _ => rfl)) (pe_op (c_I0 op_add) (cv 6) (pe_gi T.g_REACH)) (fun _ _ => rfl))) (cv 5) (nomark _)) (pss_one (cs_aug (i := 6) sc.nd rfl (Or.inl rfl) pe_int cip_add)))
        (pss_one (ps_ret (cv 6))))))), ?_⟩
    refine ci_meth R (fun _ _ _ => rfl) ?_
    refine ⟨p, B, a, i, rfl, R, O, hi, ?_⟩
    refine ci_ixR TA.lst (by omega) (by rw [Int.toNat_natCast]; exact hb1) ?_
    refine ci_ix (IL.of hT1) (by omega) (by omega) ?_
    refine ci_while ?_
    refine while_by (fun σ H' => ∃ o : Int, σ = [some (.ref p), some (.int i), some (.int c), some (.ref l), some (.int (c + (a.spot i).extra)), some (.int (Haul.val (Haul.tab a.step (a.spots.drop i)) c)), some (.int o)] ∧ H' = H ∧ -81 ≤ o ∧ o ≤ g) (fun σ _ => match σ with
      | [_, _, _, _, _, _, some (.int o)] => (81 - o).toNat
      | _ => 0) ⟨-81, rfl, rfl, by omega, by omega⟩ ?_ ?_
    · rintro σ H' ⟨o, rfl, rfl, h1, h2⟩
      refine ⟨p, B, a, i, _, _, rfl, R, O, hi, ?_⟩
      refine ci_ixR TA.lst (by omega) (by rw [show ((i : Int) + 1).toNat = i + 1 by omega]; exact hb2) ?_
      refine ci_ix (IL.of hT2) (by omega) (by omega) ?_
      refine i_ite ?_ ?_
      · intro ne
        have lt : o < g := by
          rcases Int.lt_or_eq_of_le h2 with q | q
          · exact q
          · subst q
            unfold Haul.Keeps at kp
            rw [← spots_drop hi] at kp
            exact (ne kp).elim
        refine ⟨⟨o + 1, rfl, rfl, by omega, by omega⟩, ?_⟩
        show (81 - (o + 1)).toNat < (81 - o).toNat
        omega
      · intro ne
        have eo : o = g := by
          rcases Int.lt_or_eq_of_le h2 with q | q
          · refine (no o h1 q ?_).elim
            unfold Haul.Keeps
            rw [← spots_drop hi]
            exact Decidable.not_not.mp ne
          · exact q
        subst eo
        exact k
    · show MT _
      walk_at "mono"
      rintro vs H0 E0' Q0 Q1 hq ⟨p', B', a', i', h', g', e1, e2, e3, e4, q⟩
      exact ⟨p', B', a', i', h', g', e1, e2, e3, e4, hq _ _ q⟩
end
end Hl
end
section
namespace Hl
open PySem PySem.Spec PyProof.Rows L2
section
variable {P : Program} {w : World} {K : PySem.W.Frag} {mg : Str → Option Value} {base : Heap}
structure Calls4 (P : Program) (w : World) (K : PySem.W.Frag) (mg : Str → Option Value) (base : Heap) (D : Addr) : Prop where
  rest_costs : Cal P w K mg base "rest_costs" 2 ["road"] (sp_rest_costs D)
  first_onward : Cal P w K mg base "first_onward" 3 ["road", "i", "came", "tables"] (sp_first_onward D)
def spRL (D : Addr) (F : Kv364.Abs → Kv364.Plan → List Int) : Sp := fun vs H Q _ => ∃ (p : Addr) (A : Ads) (a : Kv364.Abs) (b : Kv364.Plan), vs = [.ref p] ∧ RoadAt D H p A a ∧ Haul.Ok a ∧ a.best = some b ∧ ∀ (H' : Hp) (l : Addr), Same H H' → H l = none → H' l = some (.lst ((F a b).map V.int)) → Q (.ref l) H'
abbrev s_cheapest_way : Stmt := top 7
theorem sc_cheapest_way : FnScope ["road", "tables", "way", "came", "i"] ["road"] (defScope s_cheapest_way) := ⟨rfl, rfl, rfl, by decide +kernel, rfl, by decide +kernel, by decide +kernel⟩
theorem ok_cheapest_way {f : Addr} {fd : FuncData} {D : Addr} (F : Fun K "cheapest_way" "cheapest_way" s_cheapest_way f fd) (T : Txt K mg D) (C : Calls4 P w K mg base D) : FnOk P w K mg base CX0 4 f fd ["road"] (spRL D fun _ b => b.flows) := by
  have sc := sc_cheapest_way
  refine F.ok sc (fun vs H Q E h => ?_) (fun cdv A outer s H vs Q E hr h => ?_)
  · obtain ⟨p, B, a, b, rfl, _⟩ := h
    rfl
  · obtain ⟨p, B, a, b, rfl, R, O, hbest, k⟩ := h
    have n8 := O.n8
    obtain ⟨BB, WW, CC, LL⟩ := O.best hbest
    refine ⟨_, (pss_cons (ps_set (i := 1) sc.nd rfl (Or.inl rfl) (pe_cal C.rest_costs hr (pa_cons (cv 0) pa_nil)))
        (pss_cons (ps_set (i := 2) sc.nd rfl (Or.inl rfl) (ce_lst pa_nil))
        (pss_cons (ps_set (i := 3) sc.nd rfl (Or.inl rfl) pe_int)
        (pss_cons (cs_for PassesOwn.never rfl (cpi_range1 rfl T.n_range (pa_cons (ce_fld (K := K) rfl (cv 0) rfl) pa_nil)) (pg_name (i := 4) sc.nd rfl (Or.inl rfl)) (pss_cons (ps_set (i := 3) sc.nd rfl (Or.inl rfl) (pe_cal C.first_onward hr (pa_cons (cv 0) (pa_cons (cv 4) (pa_cons (cv 3) (pa_cons (cv 1) pa_nil))))))
        (pss_one (ps_expr (ce_bm (K := K) rfl PySem.F.slot_list_append PySem.F.type_list_append cmt_append (cv 2) (pa_cons (cv 3) pa_nil))))))
        (pss_one (ps_ret (cv 2))))))), ?_⟩
    refine ⟨p, B, a, rfl, R, O, fun H1 l as s1 TA => ?_⟩
    refine ci_lst (by decide) fun wl hw => ?_
    have fw : H wl = none := s1.free hw
    refine ci_for ?_
    refine ci_stations T (R.same (s1.new hw)) ?_
    refine ci_rng1 (by omega) (by omega) ?_
    rw [Int.toNat_natCast]
    refine for_range (fun i σ H' => ∃ (came c : Int) (v : Option V), σ = [some (.ref p), some (.ref l), some (.ref wl), some (.int came), v] ∧ Same H1 H' ∧ H' wl = some (.lst ((b.flows.take i).map V.int)) ∧ (-81 ≤ came ∧ came ≤ 81) ∧ Haul.Best a (fun _ => True) (a.spots.drop i) came c (b.flows.drop i) ∧ Haul.Wide (a.spots.drop i) came (b.flows.drop i) ∧ c < Haul.NEVER)
      ⟨0, b.cost, none, rfl, Same.rfl.new hw, upd_same, by omega, BB, WW, CC⟩ ?_ ?_
    · rintro i σ H' hi ⟨came, c, v, rfl, s2, hW, hc, Bi, Wi, Ci⟩
      rw [Int.zero_add]
      have hfd : b.flows.drop i = b.flows.getD i 0 :: b.flows.drop (i + 1) := Haul.drop_getD (by omega)
      rw [spots_drop hi, hfd] at Bi Wi
      obtain ⟨kp, no, c', B', C'⟩ := Haul.first_keeps Bi Wi hc Ci
      refine ⟨p, B, a, i, came, l, as, b.flows.getD i 0, rfl, R.same (s1.trans s2), O, hi, hc, TA.same s2, Wi.2.1, kp, no, ?_⟩
      refine ci_bm hW ?_
      refine ci_app hW (by rw [List.length_map, List.length_take]; omega) ?_
      refine ⟨b.flows.getD i 0, c', _, rfl, s2.re hw, ?_, Wi.2.1, B', Wi.2.2, C'⟩
      rw [upd_same, Haul.take_succ_getD (by omega), List.map_append]
      rfl
    · rintro σ H' ⟨came, c, v, rfl, s2, hW, _⟩
      refine k H' wl (s1.trans s2) fw ?_
      rw [hW, List.take_of_length_le (by omega)]
abbrev s_pit_amounts : Stmt := top 9
theorem sc_pit_amounts : FnScope ["road", "way", "amounts", "came", "i"] ["road", "way"] (defScope s_pit_amounts) := ⟨rfl, rfl, rfl, by decide +kernel, rfl, by decide +kernel, by decide +kernel⟩
def sp_pit_amounts (K : PySem.W.Frag) (D : Addr) : Sp := fun vs H Q _ => ∃ (p : Addr) (A : Ads) (a : Kv364.Abs) (wl : Addr) (fs : List Int), vs = [.ref p, .ref wl] ∧ RoadAt D H p A a ∧ Haul.Ok a ∧ IL K H wl fs ∧ fs.length = a.n ∧ ∀ (H' : Hp) (l : Addr), Same H H' → H l = none → H' l = some (.lst ((Kv364.pits a.spots 0 fs).map V.int)) → Q (.ref l) H'
theorem ok_pit_amounts {f : Addr} {fd : FuncData} {D : Addr} (F : Fun K "pit_amounts" "pit_amounts" s_pit_amounts f fd) (T : Txt K mg D) (M : Meths1 P w K mg base D) : FnOk P w K mg base CX0 2 f fd ["road", "way"] (sp_pit_amounts K D) := by
  have sc := sc_pit_amounts
  refine F.ok sc (fun vs H Q E h => ?_) (fun cdv A outer s H vs Q E hr h => ?_)
  · obtain ⟨p, B, a, wl, fs, rfl, _⟩ := h
    rfl
  · obtain ⟨p, B, a, wl, fs, rfl, R, O, hW, hlen, k⟩ := h
    have n8 := O.n8
    refine ⟨_, (pss_cons (ps_set (i := 2) sc.nd rfl (Or.inl rfl) (ce_lst pa_nil))
        (pss_cons (ps_set (i := 3) sc.nd rfl (Or.inl rfl) pe_int)
        (pss_cons (cs_for PassesOwn.never rfl (cpi_range1 rfl T.n_range (pa_cons (ce_fld (K := K) rfl (cv 0) rfl) pa_nil)) (pg_name (i := 4) sc.nd rfl (Or.inl rfl)) (pss_cons (ps_expr (ce_bm (K := K) rfl PySem.F.slot_list_append PySem.F.type_list_append cmt_append (cv 2) (pa_cons (pe_op (c_I0 op_sub) (pe_op (c_I0 op_sub) (pe_ix (c_ix (K := K) rfl) (cv 1) (cv 4) (fun _ _ => rfl)) (cv 3)) (ce_mcal M.surplus hr (cv 0) (pa_cons (cv 4) pa_nil))) pa_nil)))
        (pss_one (ps_set (i := 3) sc.nd rfl (Or.inl rfl) (pe_ix (c_ix (K := K) rfl) (cv 1) (cv 4) (fun _ _ => rfl))))))
        (pss_one (ps_ret (cv 2)))))), ?_⟩
    refine ci_lst (by decide) fun l hl => ?_
    refine ci_for ?_
    refine ci_stations T (R.same (Same.rfl.new hl)) ?_
    refine ci_rng1 (by omega) (by omega) ?_
    rw [Int.toNat_natCast]
    refine for_range (fun i σ H' => ∃ (came : Int) (dn : List Int) (v : Option V), σ = [some (.ref p), some (.ref wl), some (.ref l), some (.int came), v] ∧ Same H H' ∧ H' l = some (.lst (dn.map V.int)) ∧ dn.length = i ∧ dn ++ Kv364.pits (a.spots.drop i) came (fs.drop i) = Kv364.pits a.spots 0 fs)
      ⟨0, [], none, rfl, Same.rfl.new hl, upd_same, rfl, rfl⟩ ?_ ?_
    · rintro i σ H' hi ⟨came, dn, v, rfl, s2, hL, hdn, hE⟩
      rw [Int.zero_add]
      refine ci_bm hL ?_
      refine ci_ix (hW.same s2) (by omega) (by omega) ?_
      refine ci_meth (R.same s2) (fun _ _ _ => rfl) ?_
      refine ⟨p, B, a, i, rfl, R.same s2, O, hi, ?_⟩
      refine ci_app hL (by rw [List.length_map]; omega) ?_
      refine ci_ix (hW.same (s2.re hl)) (by omega) (by omega) ?_
      refine ⟨fs.getD i 0, dn ++ [fs.getD i 0 - came - (a.spot i).extra], _, by rw [Int.toNat_natCast]; rfl, s2.re hl, ?_, by rw [List.length_append, hdn]; rfl, ?_⟩
      · rw [upd_same, List.map_append, Int.toNat_natCast]
        rfl
      · rw [← hE, spots_drop hi, Haul.drop_getD (xs := fs) (k := i) (by omega)]
        simp [Kv364.pits]
    · rintro σ H' ⟨came, dn, v, rfl, s2, hL, hdn, hE⟩
      refine k H' l s2 hl ?_
      rw [hL, ← hE, List.drop_eq_nil_of_le (by rw [Haul.spots_len]; exact Nat.le_refl _)]
      simp [Kv364.pits]
abbrev s_has_way : Stmt := inClass (top 2) 4
theorem sc_has_way : FnScope ["self", "over"] ["self"] (defScope s_has_way) := ⟨rfl, rfl, rfl, by decide +kernel, rfl, by decide +kernel, by decide +kernel⟩
def spRB (D : Addr) (F : Kv364.Abs → Bool) : Sp := fun vs H Q _ => ∃ (p : Addr) (A : Ads) (a : Kv364.Abs), vs = [.ref p] ∧ RoadAt D H p A a ∧ Haul.Ok a ∧ Q (.bl (F a)) H
theorem max_prs {l : List (Option Nat)} {M : Int} (h1 : M ∈ prs l) (h2 : ∀ x ∈ prs l, x ≤ M) : (-1 < M) ↔ ∃ x ∈ l, x.isSome = true := by
  constructor
  · intro h
    obtain ⟨o, ho, e⟩ := List.mem_map.mp h1
    refine ⟨o, ho, ?_⟩
    cases o with
    | none => simp [Haul.pr] at e; omega
    | some q => rfl
  · rintro ⟨o, ho, e⟩
    obtain ⟨q, rfl⟩ := Option.isSome_iff_exists.mp e
    have := h2 _ (List.mem_map.mpr ⟨_, ho, rfl⟩)
    have e : Haul.pr (some q) = (q : Int) := rfl
    omega
theorem ok_has_way {f : Addr} {fd : FuncData} {D : Addr} (F : Fun K "has_way" "Road.has_way" s_has_way f fd) (T : Txt K mg D) : FnOk P w K mg base CX0 1 f fd ["self"] (spRB D fun a => a.best.isSome) := by
  have sc := sc_has_way
  refine F.ok sc (fun vs H Q E h => ?_) (fun cdv A outer s H vs Q E hr h => ?_)
  · obtain ⟨p, B, a, rfl, _⟩ := h
    rfl
  · obtain ⟨p, B, a, rfl, R, O, k⟩ := h
    have bi := Haul.best_some_iff O.fine
    have n2 := O.n2
    have eh : (Haul.zlist a.have_).sum = (a.have_.sum : Int) := Haul.sum_cast a.have_
    have ed : (Haul.zlist a.need).sum = (a.need.sum : Int) := Haul.sum_cast a.need
    refine ⟨_, (pss_cons (ps_set (i := 1) sc.nd rfl (Or.inl rfl) (pe_op (c_I0 op_sub) (pe_callB (call_sumC (K := K) rfl rfl) rfl T.n_sum boot_sum0 (pa_cons (ce_fld (K := K) rfl (cv 0) rfl) pa_nil)) (pe_callB (call_sumC (K := K) rfl rfl) rfl T.n_sum boot_sum0 (pa_cons (ce_fld (K := K) rfl (cv 0) rfl) pa_nil))))
        (pss_cons (cs_if (ct_cmpR (c_I0 op_gt) (cv 1) pe_int (nomark _)) (pss_one (ps_ret (pe_cmpR (c_I0 op_gt) (pe_callB (call_maxLC (K := K) rfl rfl) rfl T.n_max boot_max0 (pa_cons (ce_fld (K := K) rfl (cv 0) rfl) pa_nil)) (pe_gi T.g_NO_PIT) (nomark _)))) pss_nil)
        (pss_cons (cs_if (ct_cmpR (c_I0 op_lt) (cv 1) pe_int (nomark _)) (pss_one (ps_ret (pe_cmpR (c_I0 op_gt) (pe_callB (call_maxLC (K := K) rfl rfl) rfl T.n_max boot_max0 (pa_cons (ce_fld (K := K) rfl (cv 0) rfl) pa_nil)) (pe_gi T.g_NO_PIT) (nomark _)))) pss_nil)
        (pss_one (ps_ret pe_bl))))), ?_⟩
    refine ci_had T R ?_
    refine ci_sum (IL.of R.had) ?_
    refine ci_needed T R ?_
    refine ci_sum (IL.of R.needed) ?_
    rw [eh, ed]
    first | refine ci_ite ?_ ?_ | refine ci_iteN ?_ ?_
    · intro c1
      refine ci_spo T R ?_
      refine ci_maxL (IL.of R.spo) (by rw [prs_len, O.spoil]; omega) fun M m1 m2 => ?_
      have e : a.best.isSome = decide (-1 < M) := by
        rw [Bool.eq_iff_iff, bi, decide_eq_true_iff, max_prs m1 m2]
        constructor
        · rintro (q | ⟨_, q⟩ | ⟨q, _⟩)
          · omega
          · exact q
          · omega
        · intro q
          exact .inr (.inl ⟨by omega, q⟩)
      dsimp only at k
      rw [e] at k
      exact k
    · intro c1
      first | refine ci_ite ?_ ?_ | refine ci_iteN ?_ ?_
      · intro c2
        refine ci_bor T R ?_
        refine ci_maxL (IL.of R.bor) (by rw [prs_len, O.borrow]; omega) fun M m1 m2 => ?_
        have e : a.best.isSome = decide (-1 < M) := by
          rw [Bool.eq_iff_iff, bi, decide_eq_true_iff, max_prs m1 m2]
          constructor
          · rintro (q | ⟨q, _⟩ | ⟨_, q⟩)
            · omega
            · omega
            · exact q
          · intro q
            exact .inr (.inr ⟨by omega, q⟩)
        dsimp only at k
        rw [e] at k
        exact k
      · intro c2
        have e : a.best.isSome = true := bi.mpr (.inl (by omega))
        dsimp only at k
        rw [e] at k
        exact k
end
end Hl
end
section
namespace Hl
open PySem PySem.Spec PyProof.Rows L2
local macro_rules | `(tactic| walk_at "mono") => `(tactic| repeat' (first
  | exact me_cvar | exact me_c | exact ma_nil | exact mr_cI0 | exact mr_cNe | exact mr_cix | exact ml_clen
  | with_reducible refine me_op ?_ ?_ ?_ | with_reducible refine me_un ?_ ?_ | with_reducible refine me_cfld ?_ | with_reducible refine me_cb ?_ ?_ | with_reducible refine me_call ?_ ?_
  | with_reducible refine ma_cons ?_ ?_ | with_reducible refine mt_ctest ?_ | with_reducible refine mt_cand ?_ ?_))
section
variable {P : Program} {w : World} {K : PySem.W.Frag} {mg : Str → Option Value} {base : Heap}
structure Calls5 (P : Program) (w : World) (K : PySem.W.Frag) (mg : Str → Option Value) (base : Heap) (D : Addr) : Prop where
  pit_amounts : Cal P w K mg base "pit_amounts" 2 ["road", "way"] (sp_pit_amounts K D)
def tupOf (x : Nat × Nat × Int) : HO := .tup [.int (x.1 : Nat), .int (x.2.1 : Nat), .int x.2.2]
structure LoadsAt (H : Hp) (l : Addr) (ts : List Addr) (ds : List (Nat × Nat × Int)) : Prop where
  lst : H l = some (.lst (ts.map V.ref))
  len : ts.length = ds.length
  at_ : ∀ (q : Nat) (t : Addr) (x : Nat × Nat × Int), ts[q]? = some t → ds[q]? = some x → H t = some (tupOf x)
theorem LoadsAt.put {H : Hp} {l : Addr} {ts : List Addr} {ds : List (Nat × Nat × Int)} (R : LoadsAt H l ts ds) {a : Addr} {xs ys : List V} (h : H a = some (.lst xs)) (hne : l ≠ a) : LoadsAt (upd H a (.lst ys)) l ts ds :=
  ⟨by rw [upd_ne hne]; exact R.lst, R.len, fun q t x h1 h2 => by rw [upd_ne (ne_of (R.at_ q t x h1 h2) h (by intro e; cases e))]; exact R.at_ q t x h1 h2⟩
def sp_loads_of (K : PySem.W.Frag) (D : Addr) : Sp := fun vs H Q _ => ∃ (p : Addr) (A : Ads) (a : Kv364.Abs) (wl : Addr) (fs : List Int), vs = [.ref p, .ref wl] ∧ RoadAt D H p A a ∧ Haul.Ok a ∧ IL K H wl fs ∧ fs.length = a.n ∧
  ∀ (H' : Hp) (l : Addr) (ts : List Addr), Same H H' → H l = none → LoadsAt H' l ts (Haul.clo 0 (Haul.zlist (Haul.lefts a (Kv364.pits a.spots 0 fs))) 0 (Haul.zlist (Haul.lacks a (Kv364.pits a.spots 0 fs)))) → Q (.ref l) H'
theorem pits_len : ∀ (l : List Kv364.Spot) (f : Int) (gs : List Int), gs.length = l.length → (Kv364.pits l f gs).length = l.length
  | [], _, [], _ => rfl
  | s :: l, f, g :: r, h => by simp only [Kv364.pits, List.length_cons] at h ⊢; rw [pits_len l g r (by omega)]
theorem clo_end {i j : Nat} {L R : List Int} {n : Nat} (hL : L.length = n) (hR : R.length = n) (h : ¬ (i < n ∧ j < n)) : Haul.clo i (L.drop i) j (R.drop j) = [] := by
  by_cases hi : i < n
  · rw [List.drop_eq_nil_of_le (as := R) (by omega), Haul.clo_nil2]
  · rw [List.drop_eq_nil_of_le (as := L) (by omega), Haul.clo_nil1]
theorem drop_set_self {L : List Int} {i : Nat} {x : Int} (h : i < L.length) : (L.set i x).drop i = x :: L.drop (i + 1) := by
  rw [Haul.drop_getD (by rw [List.length_set]; exact h), List.getD_eq_getElem?_getD, List.getElem?_set_self h]
  congr 1
  rw [List.drop_set_of_lt (by omega)]
theorem drop_set_succ {L : List Int} {i : Nat} {x : Int} : (L.set i x).drop (i + 1) = L.drop (i + 1) := List.drop_set_of_lt (by omega)
theorem getD_set_self {L : List Int} {i : Nat} {x : Int} (h : i < L.length) : (L.set i x).getD i 0 = x := by
  rw [List.getD_eq_getElem?_getD, List.getElem?_set_self h]
  rfl
structure LoadsRest (a : Kv364.Abs) (H : Hp) (p wl al ll kl dl : Addr) (i j : Nat) (m : Int) (L Rk pp : List Int) (H2 : Hp) : Prop where
  ex : ∃ (ts2 : List Addr) (ds2 : List (Nat × Nat × Int)), Same H H2 ∧ H2 ll = some (.lst (L.map V.int)) ∧ H2 kl = some (.lst (Rk.map V.int)) ∧ LoadsAt H2 dl ts2 ds2 ∧ ds2.length ≤ i + j + 1 ∧
    ds2 ++ (if L.getD i 0 - m = 0 then Haul.clo (i + 1) (L.drop (i + 1)) j ((Rk.getD j 0 - m) :: Rk.drop (j + 1)) else Haul.clo i ((L.getD i 0 - m) :: L.drop (i + 1)) (j + 1) (Rk.drop (j + 1))) = Haul.clo 0 (Haul.zlist (Haul.lefts a pp)) 0 (Haul.zlist (Haul.lacks a pp))
def lm (L Rk : List Int) (i j : Nat) : Int := Haul.mn (L.getD i 0) (Rk.getD j 0)
abbrev s_loads_of : Stmt := top 19
theorem sc_loads_of : FnScope ["road", "way", "amounts", "left", "lacking", "loads", "start", "end", "much", "had", "amount", "needed"] ["road", "way"] (defScope s_loads_of) := ⟨rfl, rfl, rfl, by decide +kernel, rfl, by decide +kernel, by decide +kernel⟩
theorem ok_loads_of {f : Addr} {fd : FuncData} {D : Addr} (F : Fun K "loads_of" "loads_of" s_loads_of f fd) (T : Txt K mg D) (C : Calls5 P w K mg base D) : FnOk P w K mg base CX0 3 f fd ["road", "way"] (sp_loads_of K D) := by
  have sc := sc_loads_of
  refine F.ok sc (fun vs H Q E h => ?_) (fun cdv A outer s H vs Q E hr h => ?_)
  · obtain ⟨p, B, a, wl, fs, rfl, _⟩ := h
    rfl
  · obtain ⟨p, B, a, wl, fs, rfl, R, O, hW, hlen, k⟩ := h
    have n8 := O.n8
    have hpl : (Kv364.pits a.spots 0 fs).length = a.n := by rw [pits_len _ _ _ (by rw [hlen, Haul.spots_len]), Haul.spots_len]
    generalize hpp : Kv364.pits a.spots 0 fs = pp at k hpl
    have hs9 : 8 ≤ sizeLine := by decide
    refine ⟨_, (pss_cons (ps_set (i := 2) sc.nd rfl (Or.inl rfl) (pe_cal C.pit_amounts hr (pa_cons (cv 0) (pa_cons (cv 1) pa_nil))))
        (pss_cons (cs_setLC rfl sc.nd (i := 3) rfl rfl (sw_true rfl rfl rfl rfl) (cpi_zip (K := K) rfl rfl T.n_zip (pa_cons (ce_fld (K := K) rfl (cv 0) rfl) (pa_cons (cv 2) pa_nil))) (own := [("had", 9), ("amount", 10)]) (blkOk_by (by show blkC ["road", "way", "amounts", "left", "lacking", "loads", "start", "end", "much", "had", "amount", "needed"] (defScope s_loads_of) _ _ = true; decide +kernel)) (fun _ _ _ _ _ => (cpg_tup (K := K) (n := 2) rfl rfl (cpgs_cons (pg_name (i := 9) sc.nd rfl (Or.inl rfl)) (cpgs_cons (pg_name (i := 10) sc.nd rfl (Or.inl rfl)) cpgs_nil)))) (fun _ _ _ _ _ => pts_nil) (fun _ _ _ _ _ => (pe_op (c_I0 op_add) (cv 9) (pe_callB (call_maxC rfl) rfl T.n_max boot_max0 (pa_cons (cv 10) (pa_cons pe_int pa_nil))))))
        (pss_cons (cs_setLC rfl sc.nd (i := 4) rfl rfl (sw_true rfl rfl rfl rfl) (cpi_zip (K := K) rfl rfl T.n_zip (pa_cons (ce_fld (K := K) rfl (cv 0) rfl) (pa_cons (cv 2) pa_nil))) (own := [("needed", 11), ("amount", 10)]) (blkOk_by (by show blkC ["road", "way", "amounts", "left", "lacking", "loads", "start", "end", "much", "had", "amount", "needed"] (defScope s_loads_of) _ _ = true; decide +kernel)) (fun _ _ _ _ _ => (cpg_tup (K := K) (n := 2) rfl rfl (cpgs_cons (pg_name (i := 11) sc.nd rfl (Or.inl rfl)) (cpgs_cons (pg_name (i := 10) sc.nd rfl (Or.inl rfl)) cpgs_nil)))) (fun _ _ _ _ _ => pts_nil) (fun _ _ _ _ _ => (pe_op (c_I0 op_add) (cv 11) (pe_callB (call_maxC rfl) rfl T.n_max boot_max0 (pa_cons (pe_un c_neg (cv 10)) (pa_cons pe_int pa_nil))))))
        (pss_cons (ps_set (i := 5) sc.nd rfl (Or.inl rfl) (ce_lst pa_nil))
        (pss_cons (ps_set (i := 6) sc.nd rfl (Or.inl rfl) pe_int)
        (pss_cons (ps_set (i := 7) sc.nd rfl (Or.inl rfl) pe_int)
        (pss_cons (cs_while PassesOwn.never (PW.pt (cw_and (ct_cmpR (c_I0 op_lt) (cv 6) (ce_fld (K := K) rfl (cv 0) rfl) (nomark _)) (pw_and1 (ct_cmpR (c_I0 op_lt) (cv 7) (ce_fld (K := K) rfl (cv 0) rfl) (nomark _))))) (pss_cons (ps_set (i := 8) sc.nd rfl (Or.inl rfl) (pe_callB (call_minC rfl) rfl T.n_min boot_min0 (pa_cons (pe_ix (c_ix (K := K) rfl) (cv 3) (cv 6) (fun _ _ => rfl)) (pa_cons (pe_ix (c_ix (K := K) rfl) (cv 4) (cv 7) (fun _ _ => rfl)) pa_nil))))
        (pss_consX (cs_if (PW.pt (cw_and (ct_cmpR (c_I0 op_gt) (cv 8) pe_int (nomark _)) (pw_and1 (ct_cmpR c_ne (cv 6) (cv 7) (nomark _))))) (pss_one (ps_expr (ce_bm (K := K) rfl PySem.F.slot_list_append PySem.F.type_list_append cmt_append (cv 5) (pa_cons (ce_tup (pa_cons (cv 6) (pa_cons (cv 7) (pa_cons (cv 8) pa_nil)))) pa_nil)))) pss_nil)
        (pss_cons (ps_augS (cv 3) (cv 6) cget (cv 8) cip_sub c_set)
        (pss_cons (ps_augS (cv 4) (cv 7) cget (cv 8) cip_sub c_set)
        (pss_one (cs_if (ct_cmpR c_eq (pe_ix (c_ix (K := K) rfl) (cv 3) (cv 6) (fun _ _ => rfl)) pe_int (nomark _)) (pss_one (cs_aug (i := 6) sc.nd rfl (Or.inl rfl) pe_int cip_add)) (pss_one (cs_aug (i := 7) sc.nd rfl (Or.inl rfl) pe_int cip_add)))))))))
        (pss_one (ps_ret (cv 5)))))))))), ?_⟩
    refine ⟨p, B, a, wl, fs, rfl, R, O, hW, hlen, fun H1 al s1 f1 hA => ?_⟩
    rw [hpp] at hA
    refine ci_had T (R.same s1) ?_
    refine ci_izip (IL.of (s1 _ _ R.had)) (IL.of hA) ?_
    refine ci_lcZip (xs := Haul.zlist a.have_) (ys := pp) (fun i => ((a.have_.getD i 0 : Nat) : Int) + ((pp.getD i 0).toNat : Int)) (IL.of (s1 _ _ R.had)) (IL.of hA) (by rw [ints_len]; exact hpl) (by rw [ints_len]; have := (show a.have_.length ≤ 8 from n8); exact Nat.le_trans this (by decide)) (fun i H' t Rr hi hS hT hR => ?_) (fun H2 ll s2 f2 hL => ?_)
    · refine ci_gtup hT rfl ?_
      refine ⟨rfl, ?_⟩
      have q := hR _ Same.rfl
      have e : (if (0 : Int) > pp.getD i 0 then 0 else pp.getD i 0) = ((pp.getD i 0).toNat : Int) := by split <;> omega
      rw [← getD_ints, ← e] at q
      exact q
    · refine ci_needed T (R.same (s1.trans s2)) ?_
      refine ci_izip (IL.of ((s1.trans s2) _ _ R.needed)) (IL.of (s2 _ _ hA)) ?_
      refine ci_lcZip (xs := Haul.zlist a.need) (ys := pp) (fun i => ((a.need.getD i 0 : Nat) : Int) + ((-(pp.getD i 0)).toNat : Int)) (IL.of ((s1.trans s2) _ _ R.needed)) (IL.of (s2 _ _ hA)) (by rw [ints_len, O.need]; exact hpl) (by rw [ints_len, O.need]; exact Nat.le_trans n8 (by decide)) (fun i H' t Rr hi hS hT hR => ?_) (fun H3 kl s3 f3 hK => ?_)
      · refine ci_gtup hT rfl ?_
        refine ⟨rfl, ?_⟩
        have q := hR _ Same.rfl
        have e : (if (0 : Int) > -(pp.getD i 0) then 0 else -(pp.getD i 0)) = ((-(pp.getD i 0)).toNat : Int) := by split <;> omega
        rw [← getD_ints, ← e] at q
        exact q
      · refine ci_lst (by decide) fun dl hd => ?_
        have eL : (List.range (Haul.zlist a.have_).length).map (fun i => ((a.have_.getD i 0 : Nat) : Int) + ((pp.getD i 0).toNat : Int)) = Haul.zlist (Haul.lefts a pp) := by
          unfold Haul.lefts Haul.zlist
          rw [List.map_map, List.length_map]
          exact List.map_congr_left fun i _ => by simp
        have eK : (List.range (Haul.zlist a.need).length).map (fun i => ((a.need.getD i 0 : Nat) : Int) + ((-(pp.getD i 0)).toNat : Int)) = Haul.zlist (Haul.lacks a pp) := by
          unfold Haul.lacks Haul.zlist
          rw [List.map_map, List.length_map, O.need]
          exact List.map_congr_left fun i _ => by simp
        rw [eL] at hL
        rw [eK] at hK
        have lL : (Haul.zlist (Haul.lefts a pp)).length = a.n := by simp [Haul.zlist, Haul.lefts]
        have lK : (Haul.zlist (Haul.lacks a pp)).length = a.n := by simp [Haul.zlist, Haul.lacks]
        have nlk : ll ≠ kl := ne_of_none hL f3
        have nld : ll ≠ dl := ne_of_none (s3 _ _ hL) hd
        have nkd : kl ≠ dl := ne_of_none hK hd
        have fll : H ll = none := s1.free f2
        have fkl : H kl = none := (s1.trans s2).free f3
        have fdl : H dl = none := ((s1.trans s2).trans s3).free hd
        have s4 : Same H (upd H3 dl (.lst [])) := ((s1.trans s2).trans s3).new hd
        refine ci_while ?_
        refine while_by (fun σ H' => ∃ (i j : Nat) (L Rk : List Int) (ts : List Addr) (ds : List (Nat × Nat × Int)) (v : Option V), σ = [some (.ref p), some (.ref wl), some (.ref al), some (.ref ll), some (.ref kl), some (.ref dl), some (.int i), some (.int j), v, none, none, none] ∧ Same H H' ∧ H' ll = some (.lst (L.map V.int)) ∧ H' kl = some (.lst (Rk.map V.int)) ∧ LoadsAt H' dl ts ds ∧ L.length = a.n ∧ Rk.length = a.n ∧ i + j ≤ 2 * a.n ∧ ds.length ≤ i + j ∧
            ds ++ Haul.clo i (L.drop i) j (Rk.drop j) = Haul.clo 0 (Haul.zlist (Haul.lefts a pp)) 0 (Haul.zlist (Haul.lacks a pp)))
          (fun σ _ => match σ with
            | [_, _, _, _, _, _, some (.int i), some (.int j), _, _, _, _] => (2 * (a.n : Int) - i - j).toNat
            | _ => 0)
          ⟨0, 0, _, _, [], [], none, rfl, s4, by rw [upd_ne nld]; exact s3 _ _ hL, by rw [upd_ne nkd]; exact hK, ⟨upd_same, rfl, fun q t x h1 _ => by simp at h1⟩, lL, lK, by omega, by simp, rfl⟩ ?_ ?_
        · rintro σ H' ⟨i, j, L, Rk, ts, ds, v, rfl, s5, hL', hK', LA, hl1, hl2, hij, hds, hE⟩
          refine ci_stations T (R.same s5) ?_
          first | refine ci_ite ?_ ?_ | refine ci_iteN ?_ ?_
          · intro c1
            refine ci_stations T (R.same s5) ?_
            refine i_ite ?_ ?_
            · intro c2
              have c1 : i < a.n := by omega
              have c2 : j < a.n := by omega
              have h0 : 0 ≤ a.n := Nat.zero_le _
              have eD1 := Haul.drop_getD (xs := L) (k := i) (by omega)
              have eD2 := Haul.drop_getD (xs := Rk) (k := j) (by omega)
              rw [eD1, eD2, Haul.clo_cons] at hE
              refine ci_ix (IL.of hL') (by omega) (by omega) ?_
              refine ci_ix (IL.of hK') (by omega) (by omega) ?_
              refine ci_ifCut (LoadsRest a H p wl al ll kl dl i j (lm L Rk i j) L Rk pp) ?_ ?_
              · rintro H2 ⟨ts2, ds2, q1, q2, q3, q4, q5, q6⟩
                refine ci_ix (IL.of q2) (by omega) (by omega) ?_
                refine ci_set q2 (by omega) (by omega) ?_
                have q3' : upd H2 ll (.lst ((L.set i (L.getD i 0 - lm L Rk i j)).map V.int)) kl = some (.lst (Rk.map V.int)) := by rw [upd_ne nlk.symm]; exact q3
                refine ci_ix (IL.of q3') (by omega) (by omega) ?_
                refine ci_set q3' (by omega) (by omega) ?_
                have w2 : upd (upd H2 ll (.lst ((L.set i (L.getD i 0 - lm L Rk i j)).map V.int))) kl (.lst ((Rk.set j (Rk.getD j 0 - lm L Rk i j)).map V.int)) ll = some (.lst ((L.set i (L.getD i 0 - lm L Rk i j)).map V.int)) := by rw [upd_ne nlk, upd_same]
                have w3 : upd (upd H2 ll (.lst ((L.set i (L.getD i 0 - lm L Rk i j)).map V.int))) kl (.lst ((Rk.set j (Rk.getD j 0 - lm L Rk i j)).map V.int)) kl = some (.lst ((Rk.set j (Rk.getD j 0 - lm L Rk i j)).map V.int)) := upd_same
                have w1 : Same H (upd (upd H2 ll (.lst ((L.set i (L.getD i 0 - lm L Rk i j)).map V.int))) kl (.lst ((Rk.set j (Rk.getD j 0 - lm L Rk i j)).map V.int))) := (q1.re fll).re fkl
                have w4 : LoadsAt (upd (upd H2 ll (.lst ((L.set i (L.getD i 0 - lm L Rk i j)).map V.int))) kl (.lst ((Rk.set j (Rk.getD j 0 - lm L Rk i j)).map V.int))) dl ts2 ds2 := (q4.put q2 nld.symm).put (by rw [upd_ne nlk.symm]; exact q3) nkd.symm
                refine ci_ix (IL.of w2) (by omega) (by rw [List.length_set]; omega) ?_
                refine ci_ite (fun ez => ?_) (fun ez => ?_)
                · have ez2 : (L.set i (L.getD i 0 - lm L Rk i j)).getD i 0 = 0 := ez
                  rw [getD_set_self (by omega)] at ez2
                  rw [if_pos ez2] at q6
                  refine ⟨⟨i + 1, j, _, _, ts2, ds2, _, rfl, w1, w2, w3, w4, by rw [List.length_set]; exact hl1, by rw [List.length_set]; exact hl2, by omega, by omega, ?_⟩, ?_⟩
                  · rw [drop_set_succ, drop_set_self (by omega)]
                    exact q6
                  · show (2 * (a.n : Int) - ((i : Int) + 1) - (j : Int)).toNat < (2 * (a.n : Int) - (i : Int) - (j : Int)).toNat
                    omega
                · have ez2 : ¬ (L.set i (L.getD i 0 - lm L Rk i j)).getD i 0 = 0 := ez
                  rw [getD_set_self (by omega)] at ez2
                  rw [if_neg ez2] at q6
                  refine ⟨⟨i, j + 1, _, _, ts2, ds2, _, rfl, w1, w2, w3, w4, by rw [List.length_set]; exact hl1, by rw [List.length_set]; exact hl2, by omega, by omega, ?_⟩, ?_⟩
                  · rw [drop_set_succ, drop_set_self (by omega)]
                    exact q6
                  · show (2 * (a.n : Int) - (i : Int) - ((j : Int) + 1)).toNat < (2 * (a.n : Int) - (i : Int) - (j : Int)).toNat
                    omega
              · intro nx hnx
                refine ci_ite (fun d1 => ?_) (fun d1 => ?_)
                · have d1 : 0 < Haul.mn (L.getD i 0) (Rk.getD j 0) := d1
                  refine ci_ite (fun d2 => ?_) (fun d2 => ?_)
                  · have d2 : i ≠ j := fun e => d2 (by rw [e])
                    rw [if_pos ⟨d1, d2⟩, List.singleton_append] at hE
                    refine ci_bm LA.lst ?_
                    refine ci_tup (by simp) fun t ht => ?_
                    have st : Same H' (upd H' t (tupOf (i, j, lm L Rk i j))) := Same.rfl.new ht
                    refine ci_app (st _ _ LA.lst) (by rw [List.length_map, LA.len]; omega) ?_
                    refine hnx _ ⟨ts ++ [t], ds ++ [(i, j, lm L Rk i j)], (s5.trans st).re fdl, ?_, ?_, ?_, by rw [List.length_append]; simp; omega, ?_⟩
                    · rw [upd_ne nld]; exact st _ _ hL'
                    · rw [upd_ne nkd]; exact st _ _ hK'
                    · refine ⟨by rw [upd_same, List.map_append]; rfl, by rw [List.length_append, List.length_append, LA.len]; rfl, fun q t' x' h1 h2 => ?_⟩
                      have hc : upd H' t (tupOf (i, j, lm L Rk i j)) t' = some (tupOf x') := by
                        by_cases hq : q < ts.length
                        · rw [List.getElem?_append_left hq] at h1
                          rw [List.getElem?_append_left (by rw [← LA.len]; exact hq)] at h2
                          exact st _ _ (LA.at_ q t' x' h1 h2)
                        · have hq2 := (List.getElem?_eq_some_iff.mp h1).1
                          rw [List.length_append, List.length_singleton] at hq2
                          have eq : q = ts.length := by omega
                          rw [eq, List.getElem?_append_right (Nat.le_refl _), Nat.sub_self] at h1
                          rw [eq, LA.len, List.getElem?_append_right (Nat.le_refl _), Nat.sub_self] at h2
                          have e1 : t = t' := Option.some.inj h1
                          have e2 : (i, j, lm L Rk i j) = x' := Option.some.inj h2
                          rw [← e1, ← e2, upd_same]
                      rw [upd_ne (ne_of hc (st _ _ LA.lst) (by intro e; cases e))]
                      exact hc
                    · rw [List.append_assoc, List.singleton_append]
                      exact hE
                  · have d2 : i = j := Decidable.byContradiction fun e => d2 fun e' => e (by omega)
                    rw [if_neg (by intro q; exact q.2 d2), List.nil_append] at hE
                    exact hnx _ ⟨ts, ds, s5, hL', hK', LA, by omega, hE⟩
                · have d1 : ¬ 0 < Haul.mn (L.getD i 0) (Rk.getD j 0) := d1
                  rw [if_neg (by intro q; exact d1 q.1), List.nil_append] at hE
                  exact hnx _ ⟨ts, ds, s5, hL', hK', LA, by omega, hE⟩
            · intro c2
              refine k H' dl ts s5 fdl ?_
              rw [← hE, clo_end hl1 hl2 (by omega), List.append_nil]
              exact LA
          · intro c1
            refine i_iteF ?_
            refine k H' dl ts s5 fdl ?_
            rw [← hE, clo_end hl1 hl2 (by omega), List.append_nil]
            exact LA
        · show MT _
          walk_at "mono"
end
end Hl
end
section
namespace Hl
open PySem PySem.Spec PyProof.Rows L2
section
variable {P : Program} {w : World} {K : PySem.W.Frag} {mg : Str → Option Value} {base : Heap}
theorem upd_id {H : Hp} {a : Addr} {o : HO} (h : H a = some o) : upd H a o = H := by
  funext b
  unfold upd
  split
  · rename_i e; rw [e]; exact h.symm
  · rfl
abbrev s_swap : Stmt := top 47
theorem sc_swap : FnScope ["kept", "i", "x", "before"] ["kept", "i", "x"] (defScope s_swap) := ⟨rfl, rfl, rfl, by decide +kernel, rfl, by decide +kernel, by decide +kernel⟩
def sp_swap : Sp := fun vs H Q _ => ∃ (a : Addr) (xs : List Int) (i : Int) (x : Int), vs = [.ref a, .int i, .int x] ∧ H a = some (.lst (xs.map V.int)) ∧ 0 ≤ i ∧ i < xs.length ∧ Q (.int (xs.getD i.toNat 0)) (upd H a (.lst ((xs.set i.toNat x).map V.int)))
theorem ok_swap {f : Addr} {fd : FuncData} (F : Fun K "swap" "swap" s_swap f fd) : FnOk P w K mg base CX0 1 f fd ["kept", "i", "x"] sp_swap := by
  have sc := sc_swap
  refine F.ok sc (fun vs H Q E h => ?_) (fun cdv A outer s H vs Q E hr h => ?_)
  · obtain ⟨a, xs, i, x, rfl, _⟩ := h
    rfl
  · obtain ⟨a, xs, i, x, rfl, h1, h2, h3, k⟩ := h
    refine ⟨_, (pss_cons (ps_set (i := 3) sc.nd rfl (Or.inl rfl) (pe_ix (c_ix (K := K) rfl) (cv 0) (cv 1) (fun _ _ => rfl)))
        (pss_cons (ps_asg (cv 2) (pg_sub (cv 0) (cv 1) c_set))
        (pss_one (ps_ret (cv 3))))), ?_⟩
    refine ci_ix (IL.of h1) h2 h3 ?_
    refine ci_set h1 h2 h3 ?_
    exact k
abbrev s_is_step : Stmt := top 48
theorem sc_is_step : FnScope ["t"] ["t"] (defScope s_is_step) := ⟨rfl, rfl, rfl, by decide +kernel, rfl, by decide +kernel, by decide +kernel⟩
def sp_is_step : Sp := fun vs H Q _ => ∃ t : Int, vs = [.int t] ∧ Q (.bl (decide (1 ≤ t ∧ t ≤ 10))) H
theorem ok_is_step {f : Addr} {fd : FuncData} {D : Addr} (F : Fun K "is_step" "is_step" s_is_step f fd) (T : Txt K mg D) : FnOk P w K mg base CX0 1 f fd ["t"] sp_is_step := by
  have sc := sc_is_step
  refine F.ok sc (fun vs H Q E h => ?_) (fun cdv A outer s H vs Q E hr h => ?_)
  · obtain ⟨t, rfl, _⟩ := h
    rfl
  · obtain ⟨t, rfl, k⟩ := h
    refine ⟨_, (pss_one (ps_ret (ce_chain (c_I0 op_le) (c_I0 op_le) (pe_gi T.g_LEAST_STEP) (cv 0) (pe_gi T.g_MOST_STEP)))), ?_⟩
    first | refine ci_ite ?_ ?_ | refine ci_iteN ?_ ?_
    · intro c
      have e : decide (1 ≤ t ∧ t ≤ 10) = decide (t ≤ 10) := by rw [decide_eq_decide]; omega
      rw [e] at k
      exact k
    · intro c
      have e : decide (1 ≤ t ∧ t ≤ 10) = false := by rw [decide_eq_false_iff_not]; omega
      rw [e] at k
      exact k
abbrev s_refusal : Stmt := top 49
theorem sc_refusal : FnScope ["road", "numbers", "most"] ["road", "numbers", "most"] (defScope s_refusal) := ⟨rfl, rfl, rfl, by decide +kernel, rfl, by decide +kernel, by decide +kernel⟩
def sp_refusal (K : PySem.W.Frag) (D : Addr) : Sp := fun vs H Q _ => ∃ (p : Addr) (A : Ads) (a : Kv364.Abs) (q : Addr) (i x m : Int), vs = [.ref p, .ref q, .int m] ∧ RoadAt D H p A a ∧ IL K H q [i, x] ∧ Q (.int (if (a.n : Int) ≤ i then -2 else if m < x then -22 else 0)) H
theorem ok_refusal {f : Addr} {fd : FuncData} {D : Addr} (F : Fun K "refusal" "refusal" s_refusal f fd) (T : Txt K mg D) : FnOk P w K mg base CX0 1 f fd ["road", "numbers", "most"] (sp_refusal K D) := by
  have sc := sc_refusal
  refine F.ok sc (fun vs H Q E h => ?_) (fun cdv A outer s H vs Q E hr h => ?_)
  · obtain ⟨p, B, a, q, i, x, m, rfl, _⟩ := h
    rfl
  · obtain ⟨p, B, a, q, i, x, m, rfl, R, hq, k⟩ := h
    refine ⟨_, (pss_cons (cs_if (ct_cmpR (c_I0 op_ge) (pe_ix (c_ix (K := K) rfl) (cv 1) pe_int (fun _ _ => rfl)) (ce_fld (K := K) rfl (cv 0) rfl) (nomark _)) (pss_one (ps_ret (pe_gi T.g_NO_STATION))) pss_nil)
        (pss_cons (cs_if (ct_cmpR (c_I0 op_gt) (pe_ix (c_ix (K := K) rfl) (cv 1) pe_int (fun _ _ => rfl)) (cv 2) (nomark _)) (pss_one (ps_ret (pe_gi T.g_OUT_OF_RANGE))) pss_nil)
        (pss_one (ps_ret pe_int)))), ?_⟩
    refine ci_ix hq (by decide) (by simp) ?_
    refine ci_stations T R ?_
    first | refine ci_ite ?_ ?_ | refine ci_iteN ?_ ?_
    · intro c
      have c : (a.n : Int) ≤ i := c
      rw [if_pos c] at k
      exact k
    · intro c
      have c : ¬ (a.n : Int) ≤ i := c
      rw [if_neg c] at k
      refine ci_ix hq (by decide) (by simp) ?_
      first | refine ci_ite ?_ ?_ | refine ci_iteN ?_ ?_
      · intro c2
        have c2 : m < x := c2
        rw [if_pos c2] at k
        exact k
      · intro c2
        have c2 : ¬ m < x := c2
        rw [if_neg c2] at k
        exact k
def putRes (n m : Int) (d : Int) (xs : List Int) (i x : Int) : Int × List Int := if n ≤ i then (-2, xs) else if m < x then (-22, xs) else (xs.getD i.toNat 0 + d, xs.set i.toNat x)
def sp_put (K : PySem.W.Frag) (D : Addr) (m d : Int) : Sp := fun vs H Q _ => ∃ (p : Addr) (A : Ads) (a : Kv364.Abs) (lk : Addr) (xs : List Int) (q : Addr) (i x : Int), vs = [.ref p, .ref lk, .ref q] ∧ RoadAt D H p A a ∧ H lk = some (.lst (xs.map V.int)) ∧ xs.length = a.n ∧ IL K H q [i, x] ∧ 0 ≤ i ∧ 0 ≤ x ∧
  ∀ l, H l = none → Q (.ref l) (upd (upd H lk (.lst ((putRes a.n m d xs i x).2.map V.int))) l (.lst [.int (putRes a.n m d xs i x).1]))
structure Calls6 (P : Program) (w : World) (K : PySem.W.Frag) (mg : Str → Option Value) (base : Heap) (D : Addr) : Prop where
  swap : Cal P w K mg base "swap" 1 ["kept", "i", "x"] sp_swap
  refusal : Cal P w K mg base "refusal" 1 ["road", "numbers", "most"] (sp_refusal K D)
abbrev s_put_earth : Stmt := top 52
theorem sc_put_earth : FnScope ["road", "kept", "numbers", "refused"] ["road", "kept", "numbers"] (defScope s_put_earth) := ⟨rfl, rfl, rfl, by decide +kernel, rfl, by decide +kernel, by decide +kernel⟩
theorem ok_put_earth {f : Addr} {fd : FuncData} {D : Addr} (F : Fun K "put_earth" "put_earth" s_put_earth f fd) (T : Txt K mg D) (C : Calls6 P w K mg base D) : FnOk P w K mg base CX0 2 f fd ["road", "kept", "numbers"] (sp_put K D 9 0) := by
  have sc := sc_put_earth
  refine F.ok sc (fun vs H Q E h => ?_) (fun cdv A outer s H vs Q E hr h => ?_)
  · obtain ⟨p, B, a, lk, xs, q, i, x, rfl, _⟩ := h
    rfl
  · obtain ⟨p, B, a, lk, xs, q, i, x, rfl, R, hl, hn, hq, h0, h1, k⟩ := h
    refine ⟨_, (pss_cons (ps_set (i := 3) sc.nd rfl (Or.inl rfl) (pe_cal C.refusal hr (pa_cons (cv 0) (pa_cons (cv 2) (pa_cons (pe_gi T.g_MOST_EARTH) pa_nil)))))
        (pss_cons (cs_if (ct_cmpR (c_I0 op_lt) (cv 3) pe_int (nomark _)) (pss_one (ps_ret (ce_lst (pa_cons (cv 3) pa_nil)))) pss_nil)
        (pss_one (ps_ret (ce_lst (pa_cons (pe_cal C.swap hr (pa_cons (cv 1) (pa_cons (pe_ix (c_ix (K := K) rfl) (cv 2) pe_int (fun _ _ => rfl)) (pa_cons (pe_ix (c_ix (K := K) rfl) (cv 2) pe_int (fun _ _ => rfl)) pa_nil)))) pa_nil)))))), ?_⟩
    refine ⟨p, B, a, q, i, x, 9, rfl, R, hq, ?_⟩
    unfold putRes at k
    by_cases c1 : (a.n : Int) ≤ i
    · simp only [if_pos c1, upd_id hl] at k ⊢
      exact ci_lst (by decide) k
    · by_cases c2 : 9 < x
      · simp only [if_neg c1, if_pos c2, upd_id hl] at k ⊢
        exact ci_lst (by decide) k
      · simp only [if_neg c1, if_neg c2, Int.add_zero] at k ⊢
        refine ci_ix hq (by decide) (by simp) ?_
        refine ci_ix hq (by decide) (by simp) ?_
        refine ⟨lk, xs, i, x, rfl, hl, h0, by omega, ?_⟩
        refine ci_lst (by simp) fun l hL => k l ?_
        have ne : l ≠ lk := fun e => by rw [e, upd_same] at hL; cases hL
        rw [upd_ne ne] at hL
        exact hL
abbrev s_put_pit : Stmt := top 53
theorem sc_put_pit : FnScope ["road", "pits", "numbers", "refused"] ["road", "pits", "numbers"] (defScope s_put_pit) := ⟨rfl, rfl, rfl, by decide +kernel, rfl, by decide +kernel, by decide +kernel⟩
theorem ok_put_pit {f : Addr} {fd : FuncData} {D : Addr} (F : Fun K "put_pit" "put_pit" s_put_pit f fd) (T : Txt K mg D) (C : Calls6 P w K mg base D) : FnOk P w K mg base CX0 2 f fd ["road", "pits", "numbers"] (sp_put K D 50 1) := by
  have sc := sc_put_pit
  refine F.ok sc (fun vs H Q E h => ?_) (fun cdv A outer s H vs Q E hr h => ?_)
  · obtain ⟨p, B, a, lk, xs, q, i, x, rfl, _⟩ := h
    rfl
  · obtain ⟨p, B, a, lk, xs, q, i, x, rfl, R, hl, hn, hq, h0, h1, k⟩ := h
    refine ⟨_, (pss_cons (ps_set (i := 3) sc.nd rfl (Or.inl rfl) (pe_cal C.refusal hr (pa_cons (cv 0) (pa_cons (cv 2) (pa_cons (pe_gi T.g_MOST_PRICE) pa_nil)))))
        (pss_cons (cs_if (ct_cmpR (c_I0 op_lt) (cv 3) pe_int (nomark _)) (pss_one (ps_ret (ce_lst (pa_cons (cv 3) pa_nil)))) pss_nil)
        (pss_one (ps_ret (ce_lst (pa_cons (pe_op (c_I0 op_add) (pe_cal C.swap hr (pa_cons (cv 1) (pa_cons (pe_ix (c_ix (K := K) rfl) (cv 2) pe_int (fun _ _ => rfl)) (pa_cons (pe_ix (c_ix (K := K) rfl) (cv 2) pe_int (fun _ _ => rfl)) pa_nil)))) pe_int) pa_nil)))))), ?_⟩
    refine ⟨p, B, a, q, i, x, 50, rfl, R, hq, ?_⟩
    unfold putRes at k
    by_cases c1 : (a.n : Int) ≤ i
    · simp only [if_pos c1, upd_id hl] at k ⊢
      exact ci_lst (by decide) k
    · by_cases c2 : 50 < x
      · simp only [if_neg c1, if_pos c2, upd_id hl] at k ⊢
        exact ci_lst (by decide) k
      · simp only [if_neg c1, if_neg c2] at k ⊢
        refine ci_ix hq (by decide) (by simp) ?_
        refine ci_ix hq (by decide) (by simp) ?_
        refine ⟨lk, xs, i, x, rfl, hl, h0, by omega, ?_⟩
        refine ci_lst (by simp) fun l hL => k l ?_
        have ne : l ≠ lk := fun e => by rw [e, upd_same] at hL; cases hL
        rw [upd_ne ne] at hL
        exact hL
end
end Hl
end
section
namespace Hl
open PySem PySem.Spec PyProof.Rows L2
section
variable {P : Program} {w : World} {K : PySem.W.Frag} {mg : Str → Option Value} {base : Heap}
structure Calls7 (P : Program) (w : World) (K : PySem.W.Frag) (mg : Str → Option Value) (base : Heap) : Prop where
  swap : Cal P w K mg base "swap" 1 ["kept", "i", "x"] sp_swap
def takeRes (n : Int) (xs : List Int) (i : Int) : Int × List Int := if n ≤ i then (-2, xs) else if xs.getD i.toNat 0 = -1 then (-6, xs) else (xs.getD i.toNat 0, xs.set i.toNat (-1))
abbrev s_take_pit : Stmt := top 54
theorem sc_take_pit : FnScope ["road", "pits", "i"] ["road", "pits", "i"] (defScope s_take_pit) := ⟨rfl, rfl, rfl, by decide +kernel, rfl, by decide +kernel, by decide +kernel⟩
def sp_take (D : Addr) : Sp := fun vs H Q _ => ∃ (p : Addr) (A : Ads) (a : Kv364.Abs) (lk : Addr) (xs : List Int) (i : Int), vs = [.ref p, .ref lk, .int i] ∧ RoadAt D H p A a ∧ H lk = some (.lst (xs.map V.int)) ∧ xs.length = a.n ∧ 0 ≤ i ∧
  ∀ l, H l = none → Q (.ref l) (upd (upd H lk (.lst ((takeRes a.n xs i).2.map V.int))) l (.lst [.int (takeRes a.n xs i).1]))
theorem ok_take_pit {f : Addr} {fd : FuncData} {D : Addr} (F : Fun K "take_pit" "take_pit" s_take_pit f fd) (T : Txt K mg D) (C : Calls7 P w K mg base) : FnOk P w K mg base CX0 2 f fd ["road", "pits", "i"] (sp_take D) := by
  have sc := sc_take_pit
  refine F.ok sc (fun vs H Q E h => ?_) (fun cdv A outer s H vs Q E hr h => ?_)
  · obtain ⟨p, B, a, lk, xs, i, rfl, _⟩ := h
    rfl
  · obtain ⟨p, B, a, lk, xs, i, rfl, R, hl, hn, h0, k⟩ := h
    refine ⟨_, (pss_cons (cs_if (ct_cmpR (c_I0 op_ge) (cv 2) (ce_fld (K := K) rfl (cv 0) rfl) (nomark _)) (pss_one (ps_ret (ce_lst (pa_cons (pe_gi T.g_NO_STATION) pa_nil)))) pss_nil)
        (pss_cons (cs_if (ct_cmpR c_eq (pe_ix (c_ix (K := K) rfl) (cv 1) (cv 2) (fun _ _ => rfl)) (pe_gi T.g_NO_PIT) (nomark _)) (pss_one (ps_ret (ce_lst (pa_cons (pe_gi T.g_NO_SUCH_PIT) pa_nil)))) pss_nil)
        (pss_one (ps_ret (ce_lst (pa_cons (pe_cal C.swap hr (pa_cons (cv 1) (pa_cons (cv 2) (pa_cons (pe_gi T.g_NO_PIT) pa_nil)))) pa_nil)))))), ?_⟩
    unfold takeRes at k
    refine ci_stations T R ?_
    first | refine ci_ite ?_ ?_ | refine ci_iteN ?_ ?_
    · intro c1
      have c1 : (a.n : Int) ≤ i := c1
      simp only [if_pos c1, upd_id hl] at k
      exact ci_lst (by decide) k
    · intro c1
      have c1 : ¬ (a.n : Int) ≤ i := c1
      refine ci_ix (IL.of hl) h0 (by omega) ?_
      first | refine ci_ite ?_ ?_ | refine ci_iteN ?_ ?_
      · intro c2
        simp only [if_neg c1, if_pos c2, upd_id hl] at k
        exact ci_lst (by decide) k
      · intro c2
        simp only [if_neg c1, if_neg c2] at k
        refine ⟨lk, xs, i, -1, rfl, hl, h0, by omega, ?_⟩
        refine ci_lst (by simp) fun l hL => k l ?_
        have ne : l ≠ lk := fun e => by rw [e, upd_same] at hL; cases hL
        rw [upd_ne ne] at hL
        exact hL
def But (p : Addr) (H H' : Hp) : Prop := ∀ b o, H b = some o → b ≠ p → H' b = some o
theorem But.rfl {p : Addr} {H : Hp} : But p H H := fun _ _ h _ => h
theorem But.new {p : Addr} {H H' : Hp} (e : But p H H') {l : Addr} {o : HO} (h : H' l = Option.none) : But p H (upd H' l o) := fun b u hb n => by
  have := e b u hb n
  rw [upd_ne (ne_of_none this h)]
  exact this
theorem But.at {p : Addr} {H H' : Hp} (e : But p H H') {o : HO} : But p H (upd H' p o) := fun b u hb n => by
  rw [upd_ne n]
  exact e b u hb n
theorem But.free {p : Addr} {H H' : Hp} (e : But p H H') {l : Addr} (h : H' l = Option.none) (n : l ≠ p) : H l = Option.none := by
  cases q : H l with
  | none => rfl
  | some o => rw [e l o q n] at h; cases h
def Layable (fs : List (Str × V)) : Prop := fs = [] ∨ ∃ n t A, fs = rf n t A
def laid (fs : List (Str × V)) (n t : Int) (A : Ads) : Prop := putF "spoil_prices" (.ref A.ls) (putF "borrow_prices" (.ref A.lb) (putF "needed" (.ref A.ln) (putF "had" (.ref A.lh) (putF "step_cost" (.int t) (putF "stations" (.int n) fs))))) = rf n t A
theorem laid_of {fs : List (Str × V)} (h : Layable fs) (n t : Int) (A : Ads) : laid fs n t A := by
  rcases h with rfl | ⟨n0, t0, A0, rfl⟩
  · unfold laid rf
    rfl
  · unfold laid rf
    rfl
end
end Hl
end
section
namespace Hl
open PySem PySem.Spec PyProof.Rows L2
section
variable {P : Program} {w : World} {K : PySem.W.Frag} {mg : Str → Option Value} {base : Heap}
abbrev s_lay : Stmt := inClass (top 2) 1
theorem sc_lay : FnScope ["self", "stations", "step_cost"] ["self", "stations", "step_cost"] (defScope s_lay) := ⟨rfl, rfl, rfl, by decide +kernel, rfl, by decide +kernel, by decide +kernel⟩
structure Laid (C : Addr) (H H' : Hp) (p : Addr) (A : Ads) (n t : Nat) : Prop where
  road : RoadAt C H' p A (Kv364.begun n t)
  but : But p H H'
  fresh : ∀ b ∈ [A.lh, A.ln, A.lb, A.ls], H b = none
def sp_lay (C : Addr) : Sp := fun vs H Q _ => ∃ (p dx : Addr) (fs : List (Str × V)) (n t : Nat), vs = [.ref p, .int n, .int t] ∧ H p = some (.ins C dx fs) ∧ Layable fs ∧ n ≤ 8 ∧ ∀ (H' : Hp) (A : Ads), Laid C H H' p A n t → Q .non H'
theorem putF_len (f : Str) (v : V) : ∀ fs : List (Str × V), (putF f v fs).length ≤ fs.length + 1
  | [] => Nat.le_refl _
  | (g, x) :: r => by
    unfold putF
    split
    · simp
    · have := putF_len f v r
      simp only [List.length_cons]
      omega
theorem Layable.len {fs : List (Str × V)} (h : Layable fs) : fs.length ≤ 6 := by
  rcases h with rfl | ⟨n, t, A, rfl⟩
  · simp
  · simp [rf]
theorem ok_lay {f : Addr} {fd : FuncData} {C : Addr} (F : Fun K "lay" "Road.lay" s_lay f fd) (T : Txt K mg C) : FnOk P w K mg base CX0 1 f fd ["self", "stations", "step_cost"] (sp_lay C) := by
  have sc := sc_lay
  refine F.ok sc (fun vs H Q E h => ?_) (fun cdv A outer s H vs Q E hr h => ?_)
  · obtain ⟨p, dx, fs, n, t, rfl, _⟩ := h
    rfl
  · obtain ⟨p, dx, fs, n, t, rfl, hp, hL, hn, k⟩ := h
    have z0 := hL.len
    refine ⟨_, (pss_cons (cs_fld (cv 0) (cv 1) rfl)
        (pss_cons (cs_fld (cv 0) (cv 2) rfl)
        (pss_cons (cs_fld (cv 0) (pe_op c_rep (ce_lst (pa_cons pe_int pa_nil)) (cv 1)) rfl)
        (pss_cons (cs_fld (cv 0) (pe_op c_rep (ce_lst (pa_cons pe_int pa_nil)) (cv 1)) rfl)
        (pss_cons (cs_fld (cv 0) (pe_op c_rep (ce_lst (pa_cons (pe_gi T.g_NO_PIT) pa_nil)) (cv 1)) rfl)
        (pss_one (cs_fld (cv 0) (pe_op c_rep (ce_lst (pa_cons (pe_gi T.g_NO_PIT) pa_nil)) (cv 1)) rfl))))))), ?_⟩
    refine ci_sput T.cl T.a_stations hp (by omega) ?_
    have z1 := putF_len "stations" (.int n) fs
    refine ci_sput T.cl T.a_step_cost upd_same (by omega) ?_
    rw [upd_upd]
    have z2 := putF_len "step_cost" (.int t) (putF "stations" (.int n) fs)
    generalize ef2 : putF "step_cost" (.int t) (putF "stations" (.int n) fs) = fs2 at z2
    have b2 : But p H (upd H p (.ins C dx fs2)) := But.rfl.at
    have p2 : upd H p (.ins C dx fs2) p = some (.ins C dx fs2) := upd_same
    generalize upd H p (.ins C dx fs2) = H2 at b2 p2
    refine ci_lst (by decide) fun q3 h3 => ?_
    refine ci_rep upd_same (by omega) (by omega) fun l3 g3 => ?_
    have n3 : l3 ≠ p := fun e => by rw [e, upd_ne (ne_of_none p2 h3), p2] at g3; cases g3
    refine ci_sput T.cl T.a_had (by rw [upd_ne (Ne.symm n3), upd_ne (ne_of_none p2 h3)]; exact p2) (by omega) ?_
    have z3 := putF_len "had" (.ref l3) fs2
    generalize ef3 : putF "had" (.ref l3) fs2 = fs3 at z3
    have f3 : H l3 = none := (b2.new h3).free g3 n3
    have b3 : But p H (upd (upd (upd H2 q3 (.lst [.int 0])) l3 (.lst (List.replicate ((n : Int)).toNat (.int 0)))) p (.ins C dx fs3)) := ((b2.new h3).new g3).at
    have p3 : upd (upd (upd H2 q3 (.lst [.int 0])) l3 (.lst (List.replicate ((n : Int)).toNat (.int 0)))) p (.ins C dx fs3) p = some (.ins C dx fs3) := upd_same
    have c3 : upd (upd (upd H2 q3 (.lst [.int 0])) l3 (.lst (List.replicate ((n : Int)).toNat (.int 0)))) p (.ins C dx fs3) l3 = some (.lst (List.replicate n (.int 0))) := by rw [upd_ne n3, upd_same, Int.toNat_natCast]
    generalize upd (upd (upd H2 q3 (.lst [.int 0])) l3 (.lst (List.replicate ((n : Int)).toNat (.int 0)))) p (.ins C dx fs3) = H3 at b3 p3 c3
    refine ci_lst (by decide) fun q4 h4 => ?_
    refine ci_rep upd_same (by omega) (by omega) fun l4 g4 => ?_
    have n4 : l4 ≠ p := fun e => by rw [e, upd_ne (ne_of_none p3 h4), p3] at g4; cases g4
    refine ci_sput T.cl T.a_needed (by rw [upd_ne (Ne.symm n4), upd_ne (ne_of_none p3 h4)]; exact p3) (by omega) ?_
    have z4 := putF_len "needed" (.ref l4) fs3
    generalize ef4 : putF "needed" (.ref l4) fs3 = fs4 at z4
    have f4 : H l4 = none := (b3.new h4).free g4 n4
    have m34 : l3 ≠ l4 := fun e => by rw [← e, upd_ne (ne_of_none c3 h4), c3] at g4; cases g4
    have b4 : But p H (upd (upd (upd H3 q4 (.lst [.int 0])) l4 (.lst (List.replicate ((n : Int)).toNat (.int 0)))) p (.ins C dx fs4)) := ((b3.new h4).new g4).at
    have p4 : upd (upd (upd H3 q4 (.lst [.int 0])) l4 (.lst (List.replicate ((n : Int)).toNat (.int 0)))) p (.ins C dx fs4) p = some (.ins C dx fs4) := upd_same
    have c4 : upd (upd (upd H3 q4 (.lst [.int 0])) l4 (.lst (List.replicate ((n : Int)).toNat (.int 0)))) p (.ins C dx fs4) l4 = some (.lst (List.replicate n (.int 0))) := by rw [upd_ne n4, upd_same, Int.toNat_natCast]
    have c34 : upd (upd (upd H3 q4 (.lst [.int 0])) l4 (.lst (List.replicate ((n : Int)).toNat (.int 0)))) p (.ins C dx fs4) l3 = some (.lst (List.replicate n (.int 0))) := by rw [upd_ne n3, upd_ne m34, upd_ne (ne_of_none c3 h4)]; exact c3
    generalize upd (upd (upd H3 q4 (.lst [.int 0])) l4 (.lst (List.replicate ((n : Int)).toNat (.int 0)))) p (.ins C dx fs4) = H4 at b4 p4 c4 c34
    refine ci_lst (by decide) fun q5 h5 => ?_
    refine ci_rep upd_same (by omega) (by omega) fun l5 g5 => ?_
    have n5 : l5 ≠ p := fun e => by rw [e, upd_ne (ne_of_none p4 h5), p4] at g5; cases g5
    refine ci_sput T.cl T.a_borrow_prices (by rw [upd_ne (Ne.symm n5), upd_ne (ne_of_none p4 h5)]; exact p4) (by omega) ?_
    have z5 := putF_len "borrow_prices" (.ref l5) fs4
    generalize ef5 : putF "borrow_prices" (.ref l5) fs4 = fs5 at z5
    have f5 : H l5 = none := (b4.new h5).free g5 n5
    have m35 : l3 ≠ l5 := fun e => by rw [← e, upd_ne (ne_of_none c34 h5), c34] at g5; cases g5
    have m45 : l4 ≠ l5 := fun e => by rw [← e, upd_ne (ne_of_none c4 h5), c4] at g5; cases g5
    have b5 : But p H (upd (upd (upd H4 q5 (.lst [.int (-1)])) l5 (.lst (List.replicate ((n : Int)).toNat (.int (-1))))) p (.ins C dx fs5)) := ((b4.new h5).new g5).at
    have p5 : upd (upd (upd H4 q5 (.lst [.int (-1)])) l5 (.lst (List.replicate ((n : Int)).toNat (.int (-1))))) p (.ins C dx fs5) p = some (.ins C dx fs5) := upd_same
    have c5 : upd (upd (upd H4 q5 (.lst [.int (-1)])) l5 (.lst (List.replicate ((n : Int)).toNat (.int (-1))))) p (.ins C dx fs5) l5 = some (.lst (List.replicate n (.int (-1)))) := by rw [upd_ne n5, upd_same, Int.toNat_natCast]
    have c35 : upd (upd (upd H4 q5 (.lst [.int (-1)])) l5 (.lst (List.replicate ((n : Int)).toNat (.int (-1))))) p (.ins C dx fs5) l3 = some (.lst (List.replicate n (.int 0))) := by rw [upd_ne n3, upd_ne m35, upd_ne (ne_of_none c34 h5)]; exact c34
    have c45 : upd (upd (upd H4 q5 (.lst [.int (-1)])) l5 (.lst (List.replicate ((n : Int)).toNat (.int (-1))))) p (.ins C dx fs5) l4 = some (.lst (List.replicate n (.int 0))) := by rw [upd_ne n4, upd_ne m45, upd_ne (ne_of_none c4 h5)]; exact c4
    generalize upd (upd (upd H4 q5 (.lst [.int (-1)])) l5 (.lst (List.replicate ((n : Int)).toNat (.int (-1))))) p (.ins C dx fs5) = H5 at b5 p5 c5 c35 c45
    refine ci_lst (by decide) fun q6 h6 => ?_
    refine ci_rep upd_same (by omega) (by omega) fun l6 g6 => ?_
    have n6 : l6 ≠ p := fun e => by rw [e, upd_ne (ne_of_none p5 h6), p5] at g6; cases g6
    refine ci_sput T.cl T.a_spoil_prices (by rw [upd_ne (Ne.symm n6), upd_ne (ne_of_none p5 h6)]; exact p5) (by omega) ?_
    have f6 : H l6 = none := (b5.new h6).free g6 n6
    have m36 : l3 ≠ l6 := fun e => by rw [← e, upd_ne (ne_of_none c35 h6), c35] at g6; cases g6
    have m46 : l4 ≠ l6 := fun e => by rw [← e, upd_ne (ne_of_none c45 h6), c45] at g6; cases g6
    have m56 : l5 ≠ l6 := fun e => by rw [← e, upd_ne (ne_of_none c5 h6), c5] at g6; cases g6
    have ef6 : putF "spoil_prices" (.ref l6) fs5 = rf n t ⟨dx, l3, l4, l5, l6⟩ := by
      rw [← ef5, ← ef4, ← ef3, ← ef2]
      exact laid_of hL n t ⟨dx, l3, l4, l5, l6⟩
    rw [ef6]
    have en : (Kv364.begun n t).n = n := by simp [Kv364.begun, Kv364.Abs.n]
    refine k _ ⟨dx, l3, l4, l5, l6⟩ ⟨⟨?_, ?_, ?_, ?_, ?_, ?_⟩, ((b5.new h6).new g6).at, ?_⟩
    · rw [upd_same, en]
      rfl
    · rw [upd_ne n3, upd_ne m36, upd_ne (ne_of_none c35 h6), c35]
      simp [Kv364.begun, Haul.zlist]
    · rw [upd_ne n4, upd_ne m46, upd_ne (ne_of_none c45 h6), c45]
      simp [Kv364.begun, Haul.zlist]
    · rw [upd_ne n5, upd_ne m56, upd_ne (ne_of_none c5 h6), c5]
      simp [Kv364.begun, prs, Haul.pr]
    · rw [upd_ne n6, upd_same, Int.toNat_natCast]
      simp [Kv364.begun, prs, Haul.pr]
    · simp [m34, m35, m36, m45, m46, m56]
    · intro b hb
      simp at hb
      rcases hb with rfl | rfl | rfl | rfl
      · exact f3
      · exact f4
      · exact f5
      · exact f6
end
end Hl
end
section
namespace Hl
open PySem PySem.Spec PyProof.Rows L2
section
variable {P : Program} {w : World} {K : PySem.W.Frag} {mg : Str → Option Value} {base : Heap}
structure Meths2 (P : Program) (w : World) (K : PySem.W.Frag) (mg : Str → Option Value) (base : Heap) (C : Addr) : Prop where
  lay : MCal P w K mg base C "lay" 1 ["self", "stations", "step_cost"] (sp_lay C)
abbrev s___init__ : Stmt := inClass (top 2) 0
theorem sc___init__ : FnScope ["self"] ["self"] (defScope s___init__) := ⟨rfl, rfl, rfl, by decide +kernel, rfl, by decide +kernel, by decide +kernel⟩
def sp_init (C : Addr) : Sp := fun vs H Q _ => ∃ (p dx : Addr), vs = [.ref p] ∧ H p = some (.ins C dx []) ∧ ∀ (H' : Hp) (A : Ads), Laid C H H' p A 0 0 → Q .non H'
theorem ok_init {f : Addr} {fd : FuncData} {C : Addr} (F : Fun K "__init__" "Road.__init__" s___init__ f fd) (M : Meths2 P w K mg base C) : FnOk P w K mg base CX0 2 f fd ["self"] (sp_init C) := by
  have sc := sc___init__
  refine F.ok sc (fun vs H Q E h => ?_) (fun cdv A outer s H vs Q E hr h => ?_)
  · obtain ⟨p, dx, rfl, _⟩ := h
    rfl
  · obtain ⟨p, dx, rfl, hp, k⟩ := h
    refine ⟨_, (pss_one (ps_expr (ce_mcal M.lay hr (cv 0) (pa_cons pe_int (pa_cons pe_int pa_nil))))), ?_⟩
    refine ci_methF hp rfl ?_
    exact ⟨p, dx, [], 0, 0, rfl, hp, .inl rfl, by omega, fun H' A L => k H' A L⟩
abbrev Ads.all (A : Ads) : List Addr := [A.lh, A.ln, A.lb, A.ls]
structure Moved (H H' : Hp) (p : Addr) (A A' : Ads) : Prop where
  keep : ∀ b o, H b = some o → b ≠ p → b ∉ A.all → H' b = some o
  new : ∀ b ∈ A'.all, b ∈ A.all ∨ H b = none
def spCall (K : PySem.W.Frag) (D : Addr) (ok : Kv364.Abs → Prop) (nums : List Int → Prop) (F : Kv364.Abs → List Int → Kv364.Abs × Kv364.Ans) : Sp := fun vs H Q _ => ∃ (p : Addr) (A : Ads) (a : Kv364.Abs) (q : Addr) (ns : List Int), vs = [.ref p, .ref q] ∧ RoadAt D H p A a ∧ ok a ∧ IL K H q ns ∧ nums ns ∧
  ∀ (H' : Hp) (l : Addr) (A' : Ads), RoadAt D H' p A' (F a ns).1 → Moved H H' p A A' → H l = none → H' l = some (.lst (((F a ns).2.ret :: (F a ns).2.nums).map V.int)) → Q (.ref l) H'
theorem Moved.same {H H' : Hp} {p : Addr} {A : Ads} (e : Same H H') : Moved H H' p A A := ⟨fun b o h _ _ => e b o h, fun b hb => .inl hb⟩
def two (ns : List Int) : Prop := ∃ x y, ns = [x, y] ∧ 0 ≤ x ∧ 0 ≤ y
def one (ns : List Int) : Prop := ∃ x, ns = [x] ∧ 0 ≤ x
theorem RoadAt.ne {D : Addr} {H : Hp} {p : Addr} {A : Ads} {a : Kv364.Abs} (R : RoadAt D H p A a) : p ≠ A.lh ∧ p ≠ A.ln ∧ p ≠ A.lb ∧ p ≠ A.ls :=
  ⟨ne_of R.obj R.had (by intro e; cases e), ne_of R.obj R.needed (by intro e; cases e), ne_of R.obj R.bor (by intro e; cases e), ne_of R.obj R.spo (by intro e; cases e)⟩
theorem moved_put {H : Hp} {p : Addr} {A : Ads} {lk l : Addr} {o o' : HO} (hk : lk ∈ A.all) (hl : H l = none) : Moved H (upd (upd H lk o) l o') p A A :=
  ⟨fun b u h _ hn => by
    have h1 : b ≠ l := ne_of_none h hl
    have h2 : b ≠ lk := fun e => hn (e ▸ hk)
    rw [upd_ne h1, upd_ne h2]
    exact h, fun b hb => .inl hb⟩
section
variable {D : Addr} {H : Hp} {p l : Addr} {A : Ads} {a : Kv364.Abs} {o : HO}
theorem RoadAt.putHad (R : RoadAt D H p A a) (hl : H l = none) {xs : List Nat} (hx : xs.length = a.have_.length) : RoadAt D (upd (upd H A.lh (.lst ((Haul.zlist xs).map V.int))) l o) p A { a with have_ := xs } := by
  have nd := R.nd
  simp at nd
  obtain ⟨n1, n2, n3, n4⟩ := R.ne
  have en : ({ a with have_ := xs } : Kv364.Abs).n = a.n := hx
  refine ⟨?_, ?_, ?_, ?_, ?_, R.nd⟩
  · rw [upd_ne (ne_of_none R.obj hl), upd_ne n1, R.obj, en]
  · rw [upd_ne (ne_of_none R.had hl), upd_same]
  · rw [upd_ne (ne_of_none R.needed hl), upd_ne (by intro e; exact nd.1.1 e.symm), R.needed]
  · rw [upd_ne (ne_of_none R.bor hl), upd_ne (by intro e; exact nd.1.2.1 e.symm), R.bor]
  · rw [upd_ne (ne_of_none R.spo hl), upd_ne (by intro e; exact nd.1.2.2 e.symm), R.spo]
theorem RoadAt.putNeed (R : RoadAt D H p A a) (hl : H l = none) {xs : List Nat} : RoadAt D (upd (upd H A.ln (.lst ((Haul.zlist xs).map V.int))) l o) p A { a with need := xs } := by
  have nd := R.nd
  simp at nd
  obtain ⟨n1, n2, n3, n4⟩ := R.ne
  refine ⟨?_, ?_, ?_, ?_, ?_, R.nd⟩
  · rw [upd_ne (ne_of_none R.obj hl), upd_ne n2, R.obj]; rfl
  · rw [upd_ne (ne_of_none R.had hl), upd_ne nd.1.1, R.had]
  · rw [upd_ne (ne_of_none R.needed hl), upd_same]
  · rw [upd_ne (ne_of_none R.bor hl), upd_ne (by intro e; exact nd.2.1.1 e.symm), R.bor]
  · rw [upd_ne (ne_of_none R.spo hl), upd_ne (by intro e; exact nd.2.1.2 e.symm), R.spo]
theorem RoadAt.putBor (R : RoadAt D H p A a) (hl : H l = none) {xs : List (Option Nat)} : RoadAt D (upd (upd H A.lb (.lst ((prs xs).map V.int))) l o) p A { a with borrow := xs } := by
  have nd := R.nd
  simp at nd
  obtain ⟨n1, n2, n3, n4⟩ := R.ne
  refine ⟨?_, ?_, ?_, ?_, ?_, R.nd⟩
  · rw [upd_ne (ne_of_none R.obj hl), upd_ne n3, R.obj]; rfl
  · rw [upd_ne (ne_of_none R.had hl), upd_ne nd.1.2.1, R.had]
  · rw [upd_ne (ne_of_none R.needed hl), upd_ne nd.2.1.1, R.needed]
  · rw [upd_ne (ne_of_none R.bor hl), upd_same]
  · rw [upd_ne (ne_of_none R.spo hl), upd_ne (by intro e; exact nd.2.2 e.symm), R.spo]
theorem RoadAt.putSpo (R : RoadAt D H p A a) (hl : H l = none) {xs : List (Option Nat)} : RoadAt D (upd (upd H A.ls (.lst ((prs xs).map V.int))) l o) p A { a with spoil := xs } := by
  have nd := R.nd
  simp at nd
  obtain ⟨n1, n2, n3, n4⟩ := R.ne
  refine ⟨?_, ?_, ?_, ?_, ?_, R.nd⟩
  · rw [upd_ne (ne_of_none R.obj hl), upd_ne n4, R.obj]; rfl
  · rw [upd_ne (ne_of_none R.had hl), upd_ne nd.1.2.2, R.had]
  · rw [upd_ne (ne_of_none R.needed hl), upd_ne nd.2.1.2, R.needed]
  · rw [upd_ne (ne_of_none R.bor hl), upd_ne nd.2.2, R.bor]
  · rw [upd_ne (ne_of_none R.spo hl), upd_same]
end
theorem ints_set {xs : List Nat} {i : Nat} {x : Int} (h : 0 ≤ x) : (Haul.zlist xs).set i x = Haul.zlist (xs.set i x.toNat) := by
  unfold Haul.zlist
  rw [List.map_set]
  congr 1
  omega
theorem prs_set {xs : List (Option Nat)} {i : Nat} {x : Int} (h : 0 ≤ x) : (prs xs).set i x = prs (xs.set i (some x.toNat)) := by
  unfold prs
  rw [List.map_set]
  congr 1
  show x = ((x.toNat : Nat) : Int)
  omega
theorem prs_set_none {xs : List (Option Nat)} {i : Nat} : (prs xs).set i (-1) = prs (xs.set i none) := by
  unfold prs
  rw [List.map_set]
  rfl
theorem old_ret (o : Option Nat) : (Kv364.old o).ret = Haul.pr o + 1 := by
  cases o <;> simp [Kv364.old, Kv364.say, Haul.pr]
structure Calls8 (P : Program) (w : World) (K : PySem.W.Frag) (mg : Str → Option Value) (base : Heap) (D : Addr) : Prop where
  put_earth : Cal P w K mg base "put_earth" 2 ["road", "kept", "numbers"] (sp_put K D 9 0)
  put_pit : Cal P w K mg base "put_pit" 2 ["road", "pits", "numbers"] (sp_put K D 50 1)
  take_pit : Cal P w K mg base "take_pit" 2 ["road", "pits", "i"] (sp_take D)
  is_step : Cal P w K mg base "is_step" 1 ["t"] sp_is_step
def n0 (ns : List Int) : Nat := (ns.getD 0 0).toNat
def n1 (ns : List Int) : Nat := (ns.getD 1 0).toNat
abbrev s_have : Stmt := top 60
theorem sc_have : FnScope ["road", "numbers"] ["road", "numbers"] (defScope s_have) := ⟨rfl, rfl, rfl, by decide +kernel, rfl, by decide +kernel, by decide +kernel⟩
theorem ok_have {f : Addr} {fd : FuncData} {D : Addr} (F : Fun K "have" "have" s_have f fd) (T : Txt K mg D) (C : Calls8 P w K mg base D) : FnOk P w K mg base CX0 3 f fd ["road", "numbers"] (spCall K D Haul.Ok two fun a ns => a.does (.have_ (n0 ns) (n1 ns))) := by
  have sc := sc_have
  refine F.ok sc (fun vs H Q E h => ?_) (fun cdv A outer s H vs Q E hr h => ?_)
  · obtain ⟨p, B, a, q, ns, rfl, _⟩ := h
    rfl
  · obtain ⟨p, B, a, q, _, rfl, R, O, hq, ⟨i, x, rfl, h0, h1⟩, k⟩ := h
    refine ⟨_, (pss_one (ps_ret (pe_cal C.put_earth hr (pa_cons (cv 0) (pa_cons (ce_fld (K := K) rfl (cv 0) rfl) (pa_cons (cv 1) pa_nil)))))), ?_⟩
    refine ci_had T R ?_
    have en : a.have_.length = a.n := rfl
    refine ⟨p, B, a, B.lh, Haul.zlist a.have_, q, i, x, rfl, R, R.had, by rw [ints_len]; rfl, hq, h0, h1, fun l hl => ?_⟩
    have e0 : n0 [i, x] = i.toNat := rfl
    have e1 : n1 [i, x] = x.toNat := rfl
    simp only [e0, e1, Kv364.Abs.does] at k
    unfold putRes
    by_cases c1 : (a.n : Int) ≤ i
    · rw [if_pos (by omega)] at k
      rw [if_pos c1]
      simp only [upd_id R.had]
      exact k _ l B (R.same (Same.rfl.new hl)) (Moved.same (Same.rfl.new hl)) hl upd_same
    · rw [if_neg (by omega)] at k
      rw [if_neg c1]
      by_cases c2 : 9 < x
      · rw [if_pos (by omega)] at k
        rw [if_pos c2]
        simp only [upd_id R.had]
        exact k _ l B (R.same (Same.rfl.new hl)) (Moved.same (Same.rfl.new hl)) hl upd_same
      · rw [if_neg (by omega)] at k
        rw [if_neg c2]
        simp only [ints_set h1, getD_ints, Int.add_zero]
        exact k _ l B (R.putHad hl (by rw [List.length_set])) (moved_put (by simp) hl) hl upd_same
abbrev s_need : Stmt := top 61
theorem sc_need : FnScope ["road", "numbers"] ["road", "numbers"] (defScope s_need) := ⟨rfl, rfl, rfl, by decide +kernel, rfl, by decide +kernel, by decide +kernel⟩
theorem ok_need {f : Addr} {fd : FuncData} {D : Addr} (F : Fun K "need" "need" s_need f fd) (T : Txt K mg D) (C : Calls8 P w K mg base D) : FnOk P w K mg base CX0 3 f fd ["road", "numbers"] (spCall K D Haul.Ok two fun a ns => a.does (.need (n0 ns) (n1 ns))) := by
  have sc := sc_need
  refine F.ok sc (fun vs H Q E h => ?_) (fun cdv A outer s H vs Q E hr h => ?_)
  · obtain ⟨p, B, a, q, ns, rfl, _⟩ := h
    rfl
  · obtain ⟨p, B, a, q, _, rfl, R, O, hq, ⟨i, x, rfl, h0, h1⟩, k⟩ := h
    refine ⟨_, (pss_one (ps_ret (pe_cal C.put_earth hr (pa_cons (cv 0) (pa_cons (ce_fld (K := K) rfl (cv 0) rfl) (pa_cons (cv 1) pa_nil)))))), ?_⟩
    refine ci_needed T R ?_
    refine ⟨p, B, a, B.ln, Haul.zlist a.need, q, i, x, rfl, R, R.needed, by rw [ints_len]; exact O.need, hq, h0, h1, fun l hl => ?_⟩
    have e0 : n0 [i, x] = i.toNat := rfl
    have e1 : n1 [i, x] = x.toNat := rfl
    simp only [e0, e1, Kv364.Abs.does] at k
    unfold putRes
    by_cases c1 : (a.n : Int) ≤ i
    · rw [if_pos (by omega)] at k
      rw [if_pos c1]
      simp only [upd_id R.needed]
      exact k _ l B (R.same (Same.rfl.new hl)) (Moved.same (Same.rfl.new hl)) hl upd_same
    · rw [if_neg (by omega)] at k
      rw [if_neg c1]
      by_cases c2 : 9 < x
      · rw [if_pos (by omega)] at k
        rw [if_pos c2]
        simp only [upd_id R.needed]
        exact k _ l B (R.same (Same.rfl.new hl)) (Moved.same (Same.rfl.new hl)) hl upd_same
      · rw [if_neg (by omega)] at k
        rw [if_neg c2]
        simp only [ints_set h1, getD_ints, Int.add_zero]
        exact k _ l B (R.putNeed hl) (moved_put (by simp) hl) hl upd_same
abbrev s_borrow : Stmt := top 62
theorem sc_borrow : FnScope ["road", "numbers"] ["road", "numbers"] (defScope s_borrow) := ⟨rfl, rfl, rfl, by decide +kernel, rfl, by decide +kernel, by decide +kernel⟩
theorem ok_borrow {f : Addr} {fd : FuncData} {D : Addr} (F : Fun K "borrow" "borrow" s_borrow f fd) (T : Txt K mg D) (C : Calls8 P w K mg base D) : FnOk P w K mg base CX0 3 f fd ["road", "numbers"] (spCall K D Haul.Ok two fun a ns => a.does (.borrow (n0 ns) (n1 ns))) := by
  have sc := sc_borrow
  refine F.ok sc (fun vs H Q E h => ?_) (fun cdv A outer s H vs Q E hr h => ?_)
  · obtain ⟨p, B, a, q, ns, rfl, _⟩ := h
    rfl
  · obtain ⟨p, B, a, q, _, rfl, R, O, hq, ⟨i, x, rfl, h0, h1⟩, k⟩ := h
    refine ⟨_, (pss_one (ps_ret (pe_cal C.put_pit hr (pa_cons (cv 0) (pa_cons (ce_fld (K := K) rfl (cv 0) rfl) (pa_cons (cv 1) pa_nil)))))), ?_⟩
    refine ci_bor T R ?_
    refine ⟨p, B, a, B.lb, prs a.borrow, q, i, x, rfl, R, R.bor, by rw [prs_len]; exact O.borrow, hq, h0, h1, fun l hl => ?_⟩
    have e0 : n0 [i, x] = i.toNat := rfl
    have e1 : n1 [i, x] = x.toNat := rfl
    simp only [e0, e1, Kv364.Abs.does] at k
    unfold putRes
    by_cases c1 : (a.n : Int) ≤ i
    · rw [if_pos (by omega)] at k
      rw [if_pos c1]
      simp only [upd_id R.bor]
      exact k _ l B (R.same (Same.rfl.new hl)) (Moved.same (Same.rfl.new hl)) hl upd_same
    · rw [if_neg (by omega)] at k
      rw [if_neg c1]
      by_cases c2 : 50 < x
      · rw [if_pos (by omega)] at k
        rw [if_pos c2]
        simp only [upd_id R.bor]
        exact k _ l B (R.same (Same.rfl.new hl)) (Moved.same (Same.rfl.new hl)) hl upd_same
      · rw [if_neg (by omega)] at k
        rw [if_neg c2]
        simp only [prs_set h1, getD_prs (l := a.borrow) (i := i.toNat) (by rw [O.borrow]; omega)]
        refine k _ l B (R.putBor hl) (moved_put (by simp) hl) hl ?_
        rw [upd_same]
        show some (HO.lst [V.int _]) = some (HO.lst [V.int (Kv364.old _).ret])
        rw [old_ret]
abbrev s_spoil : Stmt := top 64
theorem sc_spoil : FnScope ["road", "numbers"] ["road", "numbers"] (defScope s_spoil) := ⟨rfl, rfl, rfl, by decide +kernel, rfl, by decide +kernel, by decide +kernel⟩
theorem ok_spoil {f : Addr} {fd : FuncData} {D : Addr} (F : Fun K "spoil" "spoil" s_spoil f fd) (T : Txt K mg D) (C : Calls8 P w K mg base D) : FnOk P w K mg base CX0 3 f fd ["road", "numbers"] (spCall K D Haul.Ok two fun a ns => a.does (.spoil (n0 ns) (n1 ns))) := by
  have sc := sc_spoil
  refine F.ok sc (fun vs H Q E h => ?_) (fun cdv A outer s H vs Q E hr h => ?_)
  · obtain ⟨p, B, a, q, ns, rfl, _⟩ := h
    rfl
  · obtain ⟨p, B, a, q, _, rfl, R, O, hq, ⟨i, x, rfl, h0, h1⟩, k⟩ := h
    refine ⟨_, (pss_one (ps_ret (pe_cal C.put_pit hr (pa_cons (cv 0) (pa_cons (ce_fld (K := K) rfl (cv 0) rfl) (pa_cons (cv 1) pa_nil)))))), ?_⟩
    refine ci_spo T R ?_
    refine ⟨p, B, a, B.ls, prs a.spoil, q, i, x, rfl, R, R.spo, by rw [prs_len]; exact O.spoil, hq, h0, h1, fun l hl => ?_⟩
    have e0 : n0 [i, x] = i.toNat := rfl
    have e1 : n1 [i, x] = x.toNat := rfl
    simp only [e0, e1, Kv364.Abs.does] at k
    unfold putRes
    by_cases c1 : (a.n : Int) ≤ i
    · rw [if_pos (by omega)] at k
      rw [if_pos c1]
      simp only [upd_id R.spo]
      exact k _ l B (R.same (Same.rfl.new hl)) (Moved.same (Same.rfl.new hl)) hl upd_same
    · rw [if_neg (by omega)] at k
      rw [if_neg c1]
      by_cases c2 : 50 < x
      · rw [if_pos (by omega)] at k
        rw [if_pos c2]
        simp only [upd_id R.spo]
        exact k _ l B (R.same (Same.rfl.new hl)) (Moved.same (Same.rfl.new hl)) hl upd_same
      · rw [if_neg (by omega)] at k
        rw [if_neg c2]
        simp only [prs_set h1, getD_prs (l := a.spoil) (i := i.toNat) (by rw [O.spoil]; omega)]
        refine k _ l B (R.putSpo hl) (moved_put (by simp) hl) hl ?_
        rw [upd_same]
        show some (HO.lst [V.int _]) = some (HO.lst [V.int (Kv364.old _).ret])
        rw [old_ret]
end
end Hl
end
section
namespace Hl
open PySem PySem.Spec PyProof.Rows L2
section
variable {P : Program} {w : World} {K : PySem.W.Frag} {mg : Str → Option Value} {base : Heap}
abbrev s_noborrow : Stmt := top 63
theorem sc_noborrow : FnScope ["road", "numbers"] ["road", "numbers"] (defScope s_noborrow) := ⟨rfl, rfl, rfl, by decide +kernel, rfl, by decide +kernel, by decide +kernel⟩
theorem ok_noborrow {f : Addr} {fd : FuncData} {D : Addr} (F : Fun K "noborrow" "noborrow" s_noborrow f fd) (T : Txt K mg D) (C : Calls8 P w K mg base D) : FnOk P w K mg base CX0 3 f fd ["road", "numbers"] (spCall K D Haul.Ok one fun a ns => a.does (.noborrow (n0 ns))) := by
  have sc := sc_noborrow
  refine F.ok sc (fun vs H Q E h => ?_) (fun cdv A outer s H vs Q E hr h => ?_)
  · obtain ⟨p, B, a, q, ns, rfl, _⟩ := h
    rfl
  · obtain ⟨p, B, a, q, _, rfl, R, O, hq, ⟨i, rfl, h0⟩, k⟩ := h
    refine ⟨_, (pss_one (ps_ret (pe_cal C.take_pit hr (pa_cons (cv 0) (pa_cons (ce_fld (K := K) rfl (cv 0) rfl) (pa_cons (pe_ix (c_ix (K := K) rfl) (cv 1) pe_int (fun _ _ => rfl)) pa_nil)))))), ?_⟩
    refine ci_bor T R ?_
    refine ci_ix hq (by decide) (by simp) ?_
    refine ⟨p, B, a, B.lb, prs a.borrow, i, rfl, R, R.bor, by rw [prs_len]; exact O.borrow, h0, fun l hl => ?_⟩
    have e0 : n0 [i] = i.toNat := rfl
    simp only [e0, Kv364.Abs.does] at k
    unfold takeRes
    by_cases c1 : (a.n : Int) ≤ i
    · rw [if_pos (by omega)] at k
      rw [if_pos c1]
      simp only [upd_id R.bor]
      exact k _ l B (R.same (Same.rfl.new hl)) (Moved.same (Same.rfl.new hl)) hl upd_same
    · rw [if_neg (by omega)] at k
      rw [if_neg c1]
      rw [getD_prs (l := a.borrow) (i := i.toNat) (by rw [O.borrow]; omega)]
      cases e : a.borrow.getD i.toNat none with
      | none =>
        rw [e] at k
        rw [if_pos (show Haul.pr none = -1 from rfl)]
        simp only [upd_id R.bor]
        exact k _ l B (R.same (Same.rfl.new hl)) (Moved.same (Same.rfl.new hl)) hl upd_same
      | some x =>
        rw [e] at k
        rw [if_neg (show ¬ Haul.pr (some x) = -1 by show ¬ (x : Int) = -1; omega)]
        simp only [prs_set_none]
        exact k _ l B (R.putBor hl) (moved_put (by simp) hl) hl upd_same
abbrev s_nospoil : Stmt := top 65
theorem sc_nospoil : FnScope ["road", "numbers"] ["road", "numbers"] (defScope s_nospoil) := ⟨rfl, rfl, rfl, by decide +kernel, rfl, by decide +kernel, by decide +kernel⟩
theorem ok_nospoil {f : Addr} {fd : FuncData} {D : Addr} (F : Fun K "nospoil" "nospoil" s_nospoil f fd) (T : Txt K mg D) (C : Calls8 P w K mg base D) : FnOk P w K mg base CX0 3 f fd ["road", "numbers"] (spCall K D Haul.Ok one fun a ns => a.does (.nospoil (n0 ns))) := by
  have sc := sc_nospoil
  refine F.ok sc (fun vs H Q E h => ?_) (fun cdv A outer s H vs Q E hr h => ?_)
  · obtain ⟨p, B, a, q, ns, rfl, _⟩ := h
    rfl
  · obtain ⟨p, B, a, q, _, rfl, R, O, hq, ⟨i, rfl, h0⟩, k⟩ := h
    refine ⟨_, (pss_one (ps_ret (pe_cal C.take_pit hr (pa_cons (cv 0) (pa_cons (ce_fld (K := K) rfl (cv 0) rfl) (pa_cons (pe_ix (c_ix (K := K) rfl) (cv 1) pe_int (fun _ _ => rfl)) pa_nil)))))), ?_⟩
    refine ci_spo T R ?_
    refine ci_ix hq (by decide) (by simp) ?_
    refine ⟨p, B, a, B.ls, prs a.spoil, i, rfl, R, R.spo, by rw [prs_len]; exact O.spoil, h0, fun l hl => ?_⟩
    have e0 : n0 [i] = i.toNat := rfl
    simp only [e0, Kv364.Abs.does] at k
    unfold takeRes
    by_cases c1 : (a.n : Int) ≤ i
    · rw [if_pos (by omega)] at k
      rw [if_pos c1]
      simp only [upd_id R.spo]
      exact k _ l B (R.same (Same.rfl.new hl)) (Moved.same (Same.rfl.new hl)) hl upd_same
    · rw [if_neg (by omega)] at k
      rw [if_neg c1]
      rw [getD_prs (l := a.spoil) (i := i.toNat) (by rw [O.spoil]; omega)]
      cases e : a.spoil.getD i.toNat none with
      | none =>
        rw [e] at k
        rw [if_pos (show Haul.pr none = -1 from rfl)]
        simp only [upd_id R.spo]
        exact k _ l B (R.same (Same.rfl.new hl)) (Moved.same (Same.rfl.new hl)) hl upd_same
      | some x =>
        rw [e] at k
        rw [if_neg (show ¬ Haul.pr (some x) = -1 by show ¬ (x : Int) = -1; omega)]
        simp only [prs_set_none]
        exact k _ l B (R.putSpo hl) (moved_put (by simp) hl) hl upd_same
abbrev s_step : Stmt := top 66
theorem sc_step : FnScope ["road", "numbers", "t", "before"] ["road", "numbers"] (defScope s_step) := ⟨rfl, rfl, rfl, by decide +kernel, rfl, by decide +kernel, by decide +kernel⟩
theorem ok_step {f : Addr} {fd : FuncData} {D : Addr} (F : Fun K "step" "step" s_step f fd) (T : Txt K mg D) (C : Calls8 P w K mg base D) : FnOk P w K mg base CX0 3 f fd ["road", "numbers"] (spCall K D Haul.Ok one fun a ns => a.does (.step (n0 ns))) := by
  have sc := sc_step
  refine F.ok sc (fun vs H Q E h => ?_) (fun cdv A outer s H vs Q E hr h => ?_)
  · obtain ⟨p, B, a, q, ns, rfl, _⟩ := h
    rfl
  · obtain ⟨p, B, a, q, _, rfl, R, O, hq, ⟨t, rfl, h0⟩, k⟩ := h
    refine ⟨_, (pss_cons (ps_set (i := 2) sc.nd rfl (Or.inl rfl) (pe_ix (c_ix (K := K) rfl) (cv 1) pe_int (fun _ _ => rfl)))
        (pss_cons (cs_if (pt_not (ct_val (pe_cal C.is_step hr (pa_cons (cv 2) pa_nil)))) (pss_one (ps_ret (ce_lst (pa_cons (pe_gi T.g_OUT_OF_RANGE) pa_nil)))) pss_nil)
        (pss_cons (ps_set (i := 3) sc.nd rfl (Or.inl rfl) (ce_fld (K := K) rfl (cv 0) rfl))
        (pss_cons (cs_fld (cv 0) (cv 2) rfl)
        (pss_one (ps_ret (ce_lst (pa_cons (cv 3) pa_nil)))))))), ?_⟩
    have e0 : n0 [t] = t.toNat := rfl
    simp only [e0, Kv364.Abs.does] at k
    refine ci_ix hq (by decide) (by simp) ?_
    refine ⟨t, rfl, ?_⟩
    first | refine ci_ite ?_ ?_ | refine ci_iteN ?_ ?_
    · intro c
      rw [if_pos (by omega)] at k
      exact ci_lst (by decide) fun l hl => k _ l B (R.same (Same.rfl.new hl)) (Moved.same (Same.rfl.new hl)) hl upd_same
    · intro c
      rw [if_neg (by omega)] at k
      refine ci_step T R ?_
      refine ci_sput T.cl T.a_step_cost R.obj (by simp [rf]) ?_
      refine ci_lst (by simp) fun l hl => ?_
      have nl : l ≠ p := fun e => by rw [e, upd_same] at hl; cases hl
      have hl2 : H l = none := by rw [upd_ne nl] at hl; exact hl
      obtain ⟨m1, m2, m3, m4⟩ := R.ne
      refine k _ l B ⟨?_, ?_, ?_, ?_, ?_, R.nd⟩ ⟨fun b o h hb _ => ?_, fun b hb => .inl hb⟩ hl2 upd_same
      · rw [upd_ne (Ne.symm nl), upd_same]
        congr 2
        show rf a.n t B = rf a.n ((t.toNat : Nat) : Int) B
        rw [show ((t.toNat : Nat) : Int) = t by omega]
      · rw [upd_ne (ne_of_none R.had hl2), upd_ne (Ne.symm m1), R.had]
      · rw [upd_ne (ne_of_none R.needed hl2), upd_ne (Ne.symm m2), R.needed]
      · rw [upd_ne (ne_of_none R.bor hl2), upd_ne (Ne.symm m3), R.bor]
      · rw [upd_ne (ne_of_none R.spo hl2), upd_ne (Ne.symm m4), R.spo]
      · rw [upd_ne (ne_of_none h hl2), upd_ne hb, h]
structure Calls9 (P : Program) (w : World) (K : PySem.W.Frag) (mg : Str → Option Value) (base : Heap) : Prop where
  is_step : Cal P w K mg base "is_step" 1 ["t"] sp_is_step
abbrev s_begin : Stmt := top 59
theorem sc_begin : FnScope ["road", "numbers", "n", "t"] ["road", "numbers"] (defScope s_begin) := ⟨rfl, rfl, rfl, by decide +kernel, rfl, by decide +kernel, by decide +kernel⟩
theorem ok_begin {f : Addr} {fd : FuncData} {D : Addr} (F : Fun K "begin" "begin" s_begin f fd) (T : Txt K mg D) (C : Calls9 P w K mg base) (M : Meths2 P w K mg base D) : FnOk P w K mg base CX0 3 f fd ["road", "numbers"] (spCall K D (fun _ => True) two fun a ns => a.does (.begin_ (n0 ns) (n1 ns))) := by
  have sc := sc_begin
  refine F.ok sc (fun vs H Q E h => ?_) (fun cdv A outer s H vs Q E hr h => ?_)
  · obtain ⟨p, B, a, q, ns, rfl, _⟩ := h
    rfl
  · obtain ⟨p, B, a, q, _, rfl, R, _, hq, ⟨n, t, rfl, h0, h1⟩, k⟩ := h
    refine ⟨_, (pss_cons (ps_set (i := 2) sc.nd rfl (Or.inl rfl) (pe_ix (c_ix (K := K) rfl) (cv 1) pe_int (fun _ _ => rfl)))
        (pss_cons (ps_set (i := 3) sc.nd rfl (Or.inl rfl) (pe_ix (c_ix (K := K) rfl) (cv 1) pe_int (fun _ _ => rfl)))
        (pss_cons (cs_if (PW.pt (cw_or (ct_cmpR (c_I0 op_lt) (cv 2) (pe_gi T.g_LEAST_STATIONS) (nomark _)) (cw_or (ct_cmpR (c_I0 op_gt) (cv 2) (pe_gi T.g_MOST_STATIONS) (nomark _)) (pw_or1 (pt_not (ct_val (pe_cal C.is_step hr (pa_cons (cv 3) pa_nil)))))))) (pss_one (ps_ret (ce_lst (pa_cons (pe_gi T.g_OUT_OF_RANGE) pa_nil)))) pss_nil)
        (pss_cons (ps_expr (ce_mcal M.lay hr (cv 0) (pa_cons (cv 2) (pa_cons (cv 3) pa_nil))))
        (pss_one (ps_ret (ce_lst (pa_cons pe_int pa_nil)))))))), ?_⟩
    have e0 : n0 [n, t] = n.toNat := rfl
    have e1 : n1 [n, t] = t.toNat := rfl
    simp only [e0, e1, Kv364.Abs.does] at k
    have refuse : (n < 2 ∨ 8 < n ∨ ¬ (1 ≤ t ∧ t ≤ 10)) → ∀ l, H l = none → Q (.ref l) (upd H l (.lst [.int (-22)])) := by
      intro c l hl
      rw [if_pos (by omega)] at k
      exact k _ l B (R.same (Same.rfl.new hl)) (Moved.same (Same.rfl.new hl)) hl upd_same
    refine ci_ix hq (by decide) (by simp) ?_
    refine ci_ix hq (by decide) (by simp) ?_
    first | refine ci_ite ?_ ?_ | refine ci_iteN ?_ ?_
    · intro c1
      have c1 : n < 2 := c1
      exact ci_lst (by decide) (refuse (.inl c1))
    · intro c1
      have c1 : ¬ n < 2 := c1
      first | refine ci_ite ?_ ?_ | refine ci_iteN ?_ ?_
      · intro c2
        have c2 : 8 < n := c2
        exact ci_lst (by decide) (refuse (.inr (.inl c2)))
      · intro c2
        have c2 : ¬ 8 < n := c2
        refine ⟨t, rfl, ?_⟩
        first | refine ci_ite ?_ ?_ | refine ci_iteN ?_ ?_
        · intro c3
          exact ci_lst (by decide) (refuse (.inr (.inr c3)))
        · intro c3
          refine ci_methF R.obj rfl ?_
          refine ⟨p, B.dx, _, n.toNat, t.toNat, ?_, R.obj, .inr ⟨_, _, _, rfl⟩, by omega, fun H' A' L => ?_⟩
          · show [V.ref p, V.int n, V.int t] = [V.ref p, V.int ((n.toNat : Nat) : Int), V.int ((t.toNat : Nat) : Int)]
            rw [show ((n.toNat : Nat) : Int) = n by omega, show ((t.toNat : Nat) : Int) = t by omega]
          refine ci_lst (by decide) fun l hl => ?_
          rw [if_neg (by omega)] at k
          have np : l ≠ p := fun e => by rw [e, L.road.obj] at hl; cases hl
          have hl2 : H l = none := L.but.free hl np
          refine k _ l A' (L.road.same (Same.rfl.new hl)) ⟨fun b o h hb _ => ?_, fun b hb => .inr (L.fresh b hb)⟩ hl2 upd_same
          have := L.but b o h hb
          rw [upd_ne (ne_of_none this hl)]
          exact this
end
end Hl
end
section
namespace Hl
open PySem PySem.Spec PyProof.Rows L2
section
variable {P : Program} {w : World} {K : PySem.W.Frag} {mg : Str → Option Value} {base : Heap}
theorem cut_to {xs : List Int} {g : Int} (h0 : 0 ≤ g) (h1 : g ≤ xs.length) : cutV (xs.map V.int) none (some g) = (xs.take g.toNat).map V.int := by
  unfold cutV HT.sIx
  simp only [List.length_map, List.map_take]
  rw [if_neg (by omega), show min g.toNat xs.length = g.toNat by omega, List.drop_zero, Nat.sub_zero]
theorem cut_mid {xs : List Int} {l g : Int} (h0 : 0 ≤ l) (h1 : l ≤ g) (h2 : g ≤ xs.length) : cutV (xs.map V.int) (some l) (some g) = ((xs.drop l.toNat).take (g - l).toNat).map V.int := by
  unfold cutV HT.sIx
  simp only [List.length_map, List.map_take, List.map_drop]
  rw [if_neg (by omega), if_neg (by omega), show min g.toNat xs.length = g.toNat by omega, show min l.toNat xs.length = l.toNat by omega, show g.toNat - l.toNat = (g - l).toNat by omega]
theorem map_range_getD (F : Int → Int) : ∀ (l : List Int), (List.range l.length).map (fun i => F (l.getD i 0)) = l.map F := fun l => by
  apply List.ext_getElem?
  intro i
  rw [List.getElem?_map, List.getElem?_map]
  by_cases h : i < l.length
  · rw [List.getElem?_range h, List.getElem?_eq_getElem h]
    simp [List.getD_eq_getElem?_getD, List.getElem?_eq_getElem h]
  · rw [List.getElem?_eq_none (by simpa using h), List.getElem?_eq_none (by simpa using h)]
    rfl
end
end Hl
end
section
namespace Hl
open PySem PySem.Spec PyProof.Rows L2
section
variable {P : Program} {w : World} {K : PySem.W.Frag} {mg : Str → Option Value} {base : Heap}
structure Meths3 (P : Program) (w : World) (K : PySem.W.Frag) (mg : Str → Option Value) (base : Heap) (C : Addr) : Prop where
  has_way : MCal P w K mg base C "has_way" 1 ["self"] (spRB C fun a => a.best.isSome)
structure Calls10 (P : Program) (w : World) (K : PySem.W.Frag) (mg : Str → Option Value) (base : Heap) (D : Addr) : Prop where
  cheapest_way : Cal P w K mg base "cheapest_way" 4 ["road"] (spRL D fun _ b => b.flows)
  pit_amounts : Cal P w K mg base "pit_amounts" 2 ["road", "way"] (sp_pit_amounts K D)
  loads_of : Cal P w K mg base "loads_of" 3 ["road", "way"] (sp_loads_of K D)
section
variable {D : Addr} {H : Hp} {p : Addr} {A : Ads} {a : Kv364.Abs} {Q : VK}
theorem c_has_way (R : RoadAt D H p A a) (O : Haul.Ok a) (h0 : a.best = none → Q (.bl false) H) (h1 : ∀ b, a.best = some b → Q (.bl true) H) : rSp (spRB D (fun a => a.best.isSome)) [.ref p] H Q := by
  refine ci_call ⟨p, A, a, rfl, R, O, ?_⟩
  dsimp only
  cases e : a.best with
  | none => exact h0 e
  | some b => exact h1 b e
theorem c_way {b : Kv364.Plan} (R : RoadAt D H p A a) (O : Haul.Ok a) (e : a.best = some b) (h : ∀ (H' : Hp) (l : Addr), Same H H' → H l = none → H' l = some (.lst (b.flows.map V.int)) → Q (.ref l) H') : rSp (spRL D (fun _ b => b.flows)) [.ref p] H Q := ci_call ⟨p, A, a, b, rfl, R, O, e, h⟩
theorem c_pits {wl : Addr} {fs : List Int} (R : RoadAt D H p A a) (O : Haul.Ok a) (h1 : IL K H wl fs) (h2 : fs.length = a.n) (h : ∀ (H' : Hp) (l : Addr), Same H H' → H l = none → H' l = some (.lst ((Kv364.pits a.spots 0 fs).map V.int)) → Q (.ref l) H') : rSp (sp_pit_amounts K D) [.ref p, .ref wl] H Q := ci_call ⟨p, A, a, wl, fs, rfl, R, O, h1, h2, h⟩
end
theorem fin {D : Addr} {H H' : Hp} {p l : Addr} {A : Ads} {a : Kv364.Abs} {xs ys : List Int} {Q : VK} (k : ∀ (H' : Hp) (l : Addr) (A' : Ads), RoadAt D H' p A' a → Moved H H' p A A' → H l = none → H' l = some (.lst (ys.map V.int)) → Q (.ref l) H') (R : RoadAt D H p A a) (s : Same H H') (hl : H' l = none) (e : xs = ys) : Q (.ref l) (upd H' l (.lst (xs.map V.int))) := by
  subst e
  exact k _ l A (R.same (s.new hl)) (Moved.same (s.new hl)) (s.free hl) upd_same
theorem fin' {D : Addr} {H H' : Hp} {p l : Addr} {A : Ads} {a : Kv364.Abs} {ys : List Int} {Q : VK} (k : ∀ (H' : Hp) (l : Addr) (A' : Ads), RoadAt D H' p A' a → Moved H H' p A A' → H l = none → H' l = some (.lst (ys.map V.int)) → Q (.ref l) H') (R : RoadAt D H p A a) (s : Same H H') (hl : H l = none) (e : H' l = some (.lst (ys.map V.int))) : Q (.ref l) H' := k _ l A (R.same s) (Moved.same s) hl e
abbrev s_can : Stmt := top 67
theorem sc_can : FnScope ["road", "numbers"] ["road", "numbers"] (defScope s_can) := ⟨rfl, rfl, rfl, by decide +kernel, rfl, by decide +kernel, by decide +kernel⟩
theorem ok_can {f : Addr} {fd : FuncData} {D : Addr} (F : Fun K "can" "can" s_can f fd) (T : Txt K mg D) (M : Meths3 P w K mg base D) : FnOk P w K mg base CX0 5 f fd ["road", "numbers"] (spCall K D Haul.Ok (fun _ => True) fun a _ => a.does .can) := by
  have sc := sc_can
  refine F.ok sc (fun vs H Q E h => ?_) (fun cdv A outer s H vs Q E hr h => ?_)
  · obtain ⟨p, B, a, q, ns, rfl, _⟩ := h
    rfl
  · obtain ⟨p, B, a, q, ns, rfl, R, O, _, _, k⟩ := h
    refine ⟨_, (pss_one (ps_ret (ce_lst (pa_cons (ce_ifExp (ct_val (ce_mcal0 M.has_way hr (cv 0))) pe_int pe_int) pa_nil)))), ?_⟩
    simp only [Kv364.Abs.does] at k
    refine ci_methD R.obj rfl ?_
    refine c_has_way R O (fun e => ?_) (fun b e => ?_)
    · rw [e] at k
      exact ci_lst (xs := [.int 0]) (by decide) fun l hl => fin (xs := [0]) k R Same.rfl hl rfl
    · rw [e] at k
      exact ci_lst (xs := [.int 1]) (by decide) fun l hl => fin (xs := [1]) k R Same.rfl hl rfl
def costOf (a : Kv364.Abs) : Int := match a.best with
  | none => -33
  | some b => b.cost
theorem tells_eq (a : Kv364.Abs) : a.tells = Kv364.say (costOf a) := by
  unfold Kv364.Abs.tells costOf
  cases a.best <;> rfl
structure Calls11 (P : Program) (w : World) (K : PySem.W.Frag) (mg : Str → Option Value) (base : Heap) (D : Addr) : Prop where
  least_cost : Cal P w K mg base "least_cost" 3 ["road"] (spRN D (fun _ => True) fun a => Haul.val (Haul.tab a.step a.spots) 0)
abbrev s_cost_or_refusal : Stmt := top 56
theorem sc_cost_or_refusal : FnScope ["road"] ["road"] (defScope s_cost_or_refusal) := ⟨rfl, rfl, rfl, by decide +kernel, rfl, by decide +kernel, by decide +kernel⟩
theorem ok_cost_or_refusal {f : Addr} {fd : FuncData} {D : Addr} (F : Fun K "cost_or_refusal" "cost_or_refusal" s_cost_or_refusal f fd) (T : Txt K mg D) (M : Meths3 P w K mg base D) (C : Calls11 P w K mg base D) : FnOk P w K mg base CX0 4 f fd ["road"] (spRN D (fun _ => True) costOf) := by
  have sc := sc_cost_or_refusal
  refine F.ok sc (fun vs H Q E h => ?_) (fun cdv A outer s H vs Q E hr h => ?_)
  · obtain ⟨p, B, a, rfl, _⟩ := h
    rfl
  · obtain ⟨p, B, a, rfl, R, O, _, k⟩ := h
    refine ⟨_, (pss_one (ps_ret (ce_ifExp (ct_val (ce_mcal0 M.has_way hr (cv 0))) (ce_cal C.least_cost hr (pa_cons (cv 0) pa_nil)) (pe_gi T.g_CANNOT_BE)))), ?_⟩
    unfold costOf at k
    refine ci_methD R.obj rfl ?_
    refine c_has_way R O (fun e => ?_) (fun b e => ?_)
    · rw [e] at k
      exact k H Same.rfl
    · rw [e] at k
      refine ci_call ⟨p, B, a, rfl, R, O, trivial, fun H1 s1 => ?_⟩
      have := k H1 s1
      dsimp only at this
      rw [← O.least e] at this
      exact this
theorem c_cost {D : Addr} {H : Hp} {p : Addr} {A : Ads} {a : Kv364.Abs} {Q : VK} (R : RoadAt D H p A a) (O : Haul.Ok a) (h : ∀ H', Same H H' → Q (.int (costOf a)) H') : rSp (spRN D (fun _ => True) costOf) [.ref p] H Q := ci_call ⟨p, A, a, rfl, R, O, trivial, h⟩
structure Calls12 (P : Program) (w : World) (K : PySem.W.Frag) (mg : Str → Option Value) (base : Heap) (D : Addr) : Prop where
  cost_or_refusal : Cal P w K mg base "cost_or_refusal" 4 ["road"] (spRN D (fun _ => True) costOf)
abbrev s_cost : Stmt := top 68
theorem sc_cost : FnScope ["road", "numbers"] ["road", "numbers"] (defScope s_cost) := ⟨rfl, rfl, rfl, by decide +kernel, rfl, by decide +kernel, by decide +kernel⟩
theorem ok_cost {f : Addr} {fd : FuncData} {D : Addr} (F : Fun K "cost" "cost" s_cost f fd) (C : Calls12 P w K mg base D) : FnOk P w K mg base CX0 5 f fd ["road", "numbers"] (spCall K D Haul.Ok (fun _ => True) fun a _ => a.does .cost) := by
  have sc := sc_cost
  refine F.ok sc (fun vs H Q E h => ?_) (fun cdv A outer s H vs Q E hr h => ?_)
  · obtain ⟨p, B, a, q, ns, rfl, _⟩ := h
    rfl
  · obtain ⟨p, B, a, q, ns, rfl, R, O, _, _, k⟩ := h
    refine ⟨_, (pss_one (ps_ret (ce_lst (pa_cons (ce_cal C.cost_or_refusal hr (pa_cons (cv 0) pa_nil)) pa_nil)))), ?_⟩
    simp only [Kv364.Abs.does, tells_eq] at k
    refine c_cost R O fun H1 s1 => ?_
    exact ci_lst (xs := [.int (costOf a)]) (by simp) fun l hl => fin (xs := [costOf a]) k R s1 hl rfl
abbrev s_flows : Stmt := top 69
theorem sc_flows : FnScope ["road", "numbers", "gaps"] ["road", "numbers"] (defScope s_flows) := ⟨rfl, rfl, rfl, by decide +kernel, rfl, by decide +kernel, by decide +kernel⟩
theorem ok_flows {f : Addr} {fd : FuncData} {D : Addr} (F : Fun K "flows" "flows" s_flows f fd) (T : Txt K mg D) (M : Meths3 P w K mg base D) (C : Calls10 P w K mg base D) : FnOk P w K mg base CX0 5 f fd ["road", "numbers"] (spCall K D Haul.Ok (fun _ => True) fun a _ => a.does .flows) := by
  have sc := sc_flows
  refine F.ok sc (fun vs H Q E h => ?_) (fun cdv A outer s H vs Q E hr h => ?_)
  · obtain ⟨p, B, a, q, ns, rfl, _⟩ := h
    rfl
  · obtain ⟨p, B, a, q, ns, rfl, R, O, _, _, k⟩ := h
    have n8 := O.n8
    have n2 := O.n2
    refine ⟨_, (pss_cons (cs_if (pt_not (ct_val (ce_mcal0 M.has_way hr (cv 0)))) (pss_one (ps_ret (ce_lst (pa_cons (pe_gi T.g_CANNOT_BE) pa_nil)))) pss_nil)
        (pss_cons (ps_set (i := 2) sc.nd rfl (Or.inl rfl) (pe_op (c_I0 op_sub) (ce_fld (K := K) rfl (cv 0) rfl) pe_int))
        (pss_one (ps_ret (pe_op c_cat (ce_lst (pa_cons (cv 2) pa_nil)) (pe_slice (c_sl (K := K) rfl) (ce_cal C.cheapest_way hr (pa_cons (cv 0) pa_nil)) po_none (cpo_some (cv 2)))))))), ?_⟩
    simp only [Kv364.Abs.does] at k
    refine ci_methD R.obj rfl ?_
    refine c_has_way R O (fun e => ?_) (fun b e => ?_)
    · rw [e] at k
      exact ci_lst (xs := [.int (-33)]) (by decide) fun l hl => fin (xs := [-33]) k R Same.rfl hl rfl
    · rw [e] at k
      have hlen := (O.best e).2.2.2
      refine ci_stations T R ?_
      refine ci_lst (by simp) fun g hg => ?_
      have s0 : Same H (upd H g (.lst [V.int ((a.n : Int) - 1)])) := Same.rfl.new hg
      refine c_way (R.same s0) O e fun H1 wl s1 f1 hw => ?_
      refine ci_cut (xs := b.flows) (IL.of hw) fun c hc => ?_
      rw [cut_to (by omega) (by omega)]
      have s2 : Same H (upd H1 c (.lst ((b.flows.take ((a.n : Int) - 1).toNat).map V.int))) := (s0.trans s1).new hc
      have ng : g ≠ c := ne_of_none (s1 _ _ upd_same) hc
      refine ci_cat (xs := [(a.n : Int) - 1]) (ys := b.flows.take ((a.n : Int) - 1).toNat) (by rw [upd_ne ng]; exact s1 _ _ upd_same) upd_same (by simp; omega) fun l hl => ?_
      refine fin k R s2 hl ?_
      have e1 : ((a.n : Int) - 1).toNat = a.n - 1 := by omega
      have e2 : (((b.flows.take (a.n - 1)).length : Nat) : Int) = (a.n : Int) - 1 := by rw [List.length_take]; omega
      rw [e1]
      show ((a.n : Int) - 1) :: _ = (((b.flows.take (a.n - 1)).length : Nat) : Int) :: _
      rw [e2]
      rfl
abbrev s_in_all_and_each : Stmt := top 58
theorem sc_in_all_and_each : FnScope ["amounts"] ["amounts"] (defScope s_in_all_and_each) := ⟨rfl, rfl, rfl, by decide +kernel, rfl, by decide +kernel, by decide +kernel⟩
def sp_all (K : PySem.W.Frag) : Sp := fun vs H Q _ => ∃ (al : Addr) (xs : List Int), vs = [.ref al] ∧ H al = some (.lst (xs.map V.int)) ∧ xs.length ≤ 1000 ∧ ∀ (H' : Hp) (l : Addr), Same H H' → H l = none → H' l = some (.lst ((xs.sum :: xs).map V.int)) → Q (.ref l) H'
theorem ok_in_all_and_each {f : Addr} {fd : FuncData} {D : Addr} (F : Fun K "in_all_and_each" "in_all_and_each" s_in_all_and_each f fd) (T : Txt K mg D) : FnOk P w K mg base CX0 1 f fd ["amounts"] (sp_all K) := by
  have sc := sc_in_all_and_each
  refine F.ok sc (fun vs H Q E h => ?_) (fun cdv A outer s H vs Q E hr h => ?_)
  · obtain ⟨p, xs, rfl, _⟩ := h
    rfl
  · obtain ⟨al, xs, rfl, hA, hz, k⟩ := h
    refine ⟨_, (pss_one (ps_ret (pe_op c_cat (ce_lst (pa_cons (pe_callB (call_sumC (K := K) rfl rfl) rfl T.n_sum boot_sum0 (pa_cons (cv 0) pa_nil)) pa_nil)) (cv 0)))), ?_⟩
    refine ci_sum (IL.of hA) ?_
    refine ci_lst (by simp) fun g hg => ?_
    refine ci_cat (xs := [xs.sum]) (ys := xs) upd_same ((Same.rfl.new hg) _ _ hA) (by simp; omega) fun l hl => ?_
    exact k _ l ((Same.rfl.new hg).new hl) ((Same.rfl.new hg).free hl) upd_same
structure Calls13 (P : Program) (w : World) (K : PySem.W.Frag) (mg : Str → Option Value) (base : Heap) (D : Addr) : Prop where
  cheapest_way : Cal P w K mg base "cheapest_way" 4 ["road"] (spRL D fun _ b => b.flows)
  pit_amounts : Cal P w K mg base "pit_amounts" 2 ["road", "way"] (sp_pit_amounts K D)
  in_all_and_each : Cal P w K mg base "in_all_and_each" 1 ["amounts"] (sp_all K)
abbrev s_borrowed : Stmt := top 71
theorem sc_borrowed : FnScope ["road", "numbers", "amount"] ["road", "numbers"] (defScope s_borrowed) := ⟨rfl, rfl, rfl, by decide +kernel, rfl, by decide +kernel, by decide +kernel⟩
theorem ok_borrowed {f : Addr} {fd : FuncData} {D : Addr} (F : Fun K "borrowed" "borrowed" s_borrowed f fd) (T : Txt K mg D) (M : Meths3 P w K mg base D) (C : Calls13 P w K mg base D) : FnOk P w K mg base CX0 5 f fd ["road", "numbers"] (spCall K D Haul.Ok (fun _ => True) fun a _ => a.does .borrowed) := by
  have sc := sc_borrowed
  refine F.ok sc (fun vs H Q E h => ?_) (fun cdv A outer s H vs Q E hr h => ?_)
  · obtain ⟨p, B, a, q, ns, rfl, _⟩ := h
    rfl
  · obtain ⟨p, B, a, q, ns, rfl, R, O, _, _, k⟩ := h
    have n8 := O.n8
    refine ⟨_, (pss_cons (cs_if (pt_not (ct_val (ce_mcal0 M.has_way hr (cv 0)))) (pss_one (ps_ret (ce_lst (pa_cons (pe_gi T.g_CANNOT_BE) pa_nil)))) pss_nil)
        (pss_one (ps_ret (ce_cal C.in_all_and_each hr (pa_cons (ce_LC rfl sc.nd (cpi_list (K := K) rfl (ce_cal C.pit_amounts hr (pa_cons (cv 0) (pa_cons (ce_cal C.cheapest_way hr (pa_cons (cv 0) pa_nil)) pa_nil)))) (own := [("amount", 2)]) (blkOk_by (by show blkC ["road", "numbers", "amount"] (defScope s_borrowed) _ _ = true; decide +kernel)) (fun _ _ _ _ _ => (pg_name (i := 2) sc.nd rfl (Or.inl rfl))) (fun _ _ _ _ _ => pts_nil) (fun _ _ _ _ _ => (pe_callB (call_maxC rfl) rfl T.n_max boot_max0 (pa_cons (cv 2) (pa_cons pe_int pa_nil))))) pa_nil))))), ?_⟩
    simp only [Kv364.Abs.does] at k
    refine ci_methD R.obj rfl ?_
    refine c_has_way R O (fun e => ?_) (fun b e => ?_)
    · rw [e] at k
      exact ci_lst (xs := [.int (-33)]) (by decide) fun l hl => fin (xs := [-33]) k R Same.rfl hl rfl
    · rw [e] at k
      have hlen := (O.best e).2.2.2
      have hpl : (Kv364.pits a.spots 0 b.flows).length = a.n := by rw [pits_len _ _ _ (by rw [hlen, Haul.spots_len]), Haul.spots_len]
      refine c_way R O e fun H1 wl s1 f1 hw => ?_
      refine c_pits (R.same s1) O (IL.of hw) hlen fun H2 al s2 f2 hA => ?_
      dsimp only at k
      generalize Kv364.pits a.spots 0 b.flows = pp at hA hpl k
      refine ci_ilist (IL.of hA) ?_
      refine ci_lcLst (xs := pp) (fun i => (fun x => max x 0) (pp.getD i 0)) (IL.of hA) (by omega) (fun i H' Rr hi hS hR => ?_) (fun H3 dl s3 f3 hD => ?_)
      · refine ⟨rfl, ?_⟩
        have q := hR _ Same.rfl
        have e2 : (if (0 : Int) > pp.getD i 0 then 0 else pp.getD i 0) = max (pp.getD i 0) 0 := by split <;> omega
        dsimp only at q
        rw [← e2] at q
        exact q
      · rw [map_range_getD (fun x => max x 0)] at hD
        have s5 := (s1.trans s2).trans s3
        refine ci_call ⟨dl, _, rfl, hD, by rw [List.length_map]; omega, fun H4 l s4 f4 hL => ?_⟩
        exact fin' k R (s5.trans s4) (s5.free f4) hL
abbrev s_spoiled : Stmt := top 72
theorem sc_spoiled : FnScope ["road", "numbers", "amount"] ["road", "numbers"] (defScope s_spoiled) := ⟨rfl, rfl, rfl, by decide +kernel, rfl, by decide +kernel, by decide +kernel⟩
theorem ok_spoiled {f : Addr} {fd : FuncData} {D : Addr} (F : Fun K "spoiled" "spoiled" s_spoiled f fd) (T : Txt K mg D) (M : Meths3 P w K mg base D) (C : Calls13 P w K mg base D) : FnOk P w K mg base CX0 5 f fd ["road", "numbers"] (spCall K D Haul.Ok (fun _ => True) fun a _ => a.does .spoiled) := by
  have sc := sc_spoiled
  refine F.ok sc (fun vs H Q E h => ?_) (fun cdv A outer s H vs Q E hr h => ?_)
  · obtain ⟨p, B, a, q, ns, rfl, _⟩ := h
    rfl
  · obtain ⟨p, B, a, q, ns, rfl, R, O, _, _, k⟩ := h
    have n8 := O.n8
    refine ⟨_, (pss_cons (cs_if (pt_not (ct_val (ce_mcal0 M.has_way hr (cv 0)))) (pss_one (ps_ret (ce_lst (pa_cons (pe_gi T.g_CANNOT_BE) pa_nil)))) pss_nil)
        (pss_one (ps_ret (ce_cal C.in_all_and_each hr (pa_cons (ce_LC rfl sc.nd (cpi_list (K := K) rfl (ce_cal C.pit_amounts hr (pa_cons (cv 0) (pa_cons (ce_cal C.cheapest_way hr (pa_cons (cv 0) pa_nil)) pa_nil)))) (own := [("amount", 2)]) (blkOk_by (by show blkC ["road", "numbers", "amount"] (defScope s_spoiled) _ _ = true; decide +kernel)) (fun _ _ _ _ _ => (pg_name (i := 2) sc.nd rfl (Or.inl rfl))) (fun _ _ _ _ _ => pts_nil) (fun _ _ _ _ _ => (pe_callB (call_maxC rfl) rfl T.n_max boot_max0 (pa_cons (pe_un c_neg (cv 2)) (pa_cons pe_int pa_nil))))) pa_nil))))), ?_⟩
    simp only [Kv364.Abs.does] at k
    refine ci_methD R.obj rfl ?_
    refine c_has_way R O (fun e => ?_) (fun b e => ?_)
    · rw [e] at k
      exact ci_lst (xs := [.int (-33)]) (by decide) fun l hl => fin (xs := [-33]) k R Same.rfl hl rfl
    · rw [e] at k
      have hlen := (O.best e).2.2.2
      have hpl : (Kv364.pits a.spots 0 b.flows).length = a.n := by rw [pits_len _ _ _ (by rw [hlen, Haul.spots_len]), Haul.spots_len]
      refine c_way R O e fun H1 wl s1 f1 hw => ?_
      refine c_pits (R.same s1) O (IL.of hw) hlen fun H2 al s2 f2 hA => ?_
      dsimp only at k
      generalize Kv364.pits a.spots 0 b.flows = pp at hA hpl k
      refine ci_ilist (IL.of hA) ?_
      refine ci_lcLst (xs := pp) (fun i => (fun x => max (-x) 0) (pp.getD i 0)) (IL.of hA) (by omega) (fun i H' Rr hi hS hR => ?_) (fun H3 dl s3 f3 hD => ?_)
      · refine ⟨rfl, ?_⟩
        have q := hR _ Same.rfl
        have e2 : (if (0 : Int) > -(pp.getD i 0) then 0 else -(pp.getD i 0)) = max (-(pp.getD i 0)) 0 := by split <;> omega
        dsimp only at q
        rw [← e2] at q
        exact q
      · rw [map_range_getD (fun x => max (-x) 0)] at hD
        have s5 := (s1.trans s2).trans s3
        refine ci_call ⟨dl, _, rfl, hD, by rw [List.length_map]; omega, fun H4 l s4 f4 hL => ?_⟩
        exact fin' k R (s5.trans s4) (s5.free f4) hL
end
end Hl
end
section
namespace Hl
open PySem PySem.Spec PyProof.Rows L2
section
variable {P : Program} {w : World} {K : PySem.W.Frag} {mg : Str → Option Value} {base : Heap}
structure Makes (P : Program) (w : World) (K : PySem.W.Frag) (mg : Str → Option Value) (base : Heap) (C : Addr) : Prop where
  Road : Mak P w K mg base "Road" C 2 ["self"] (sp_init C)
def sp_twin (D : Addr) : Sp := fun vs H Q _ => ∃ (p : Addr) (A : Ads) (a : Kv364.Abs), vs = [.ref p] ∧ RoadAt D H p A a ∧ ∀ (H' : Hp) (q : Addr) (A' : Ads), Same H H' → RoadAt D H' q A' a → H q = none → (∀ b ∈ A'.all, H b = none) → Q (.ref q) H'
structure Tw (D : Addr) (H0 H : Hp) (q dx : Addr) (fs : List (Str × V)) : Prop where
  same : Same H0 H
  obj : H q = some (.ins D dx fs)
  new : H0 q = none
section
variable {D : Addr} {H0 H : Hp} {q dx : Addr} {fs : List (Str × V)}
theorem Tw.put (t : Tw D H0 H q dx fs) (fs' : List (Str × V)) : Tw D H0 (upd H q (.ins D dx fs')) q dx fs' := ⟨t.same.re t.new, upd_same, t.new⟩
theorem Tw.add (t : Tw D H0 H q dx fs) {l : Addr} {o : HO} (h : H l = none) : Tw D H0 (upd H l o) q dx fs := ⟨t.same.new h, by rw [upd_ne (ne_of_none t.obj h)]; exact t.obj, t.new⟩
theorem Tw.keep (t : Tw D H0 H q dx fs) {fs' : List (Str × V)} {l : Addr} {xs : List V} (h : H l = some (.lst xs)) : upd H q (.ins D dx fs') l = some (.lst xs) := by
  rw [upd_ne (ne_of h t.obj (by intro e; cases e))]
  exact h
end
abbrev s_twin : Stmt := inClass (top 2) 2
theorem sc_twin : FnScope ["self", "other"] ["self"] (defScope s_twin) := ⟨rfl, rfl, rfl, by decide +kernel, rfl, by decide +kernel, by decide +kernel⟩
theorem ok_twin {f : Addr} {fd : FuncData} {D : Addr} (F : Fun K "twin" "Road.twin" s_twin f fd) (T : Txt K mg D) (M : Makes P w K mg base D) : FnOk P w K mg base CX0 4 f fd ["self"] (sp_twin D) := by
  have sc := sc_twin
  refine F.ok sc (fun vs H Q E h => ?_) (fun cdv A outer s H vs Q E hr h => ?_)
  · obtain ⟨p, B, a, rfl, _⟩ := h
    rfl
  · obtain ⟨p, B, a, rfl, R, k⟩ := h
    refine ⟨_, (pss_cons (ps_set (i := 1) sc.nd rfl (Or.inl rfl) (ce_make M.Road hr))
        (pss_cons (cs_fld (cv 1) (ce_fld (K := K) rfl (cv 0) rfl) rfl)
        (pss_cons (cs_fld (cv 1) (ce_fld (K := K) rfl (cv 0) rfl) rfl)
        (pss_cons (cs_fld (cv 1) (pe_callTy (call_listC (K := K) rfl) rfl T.n_list boot_list0 (pa_cons (ce_fld (K := K) rfl (cv 0) rfl) pa_nil)) rfl)
        (pss_cons (cs_fld (cv 1) (pe_callTy (call_listC (K := K) rfl) rfl T.n_list boot_list0 (pa_cons (ce_fld (K := K) rfl (cv 0) rfl) pa_nil)) rfl)
        (pss_cons (cs_fld (cv 1) (pe_callTy (call_listC (K := K) rfl) rfl T.n_list boot_list0 (pa_cons (ce_fld (K := K) rfl (cv 0) rfl) pa_nil)) rfl)
        (pss_cons (cs_fld (cv 1) (pe_callTy (call_listC (K := K) rfl) rfl T.n_list boot_list0 (pa_cons (ce_fld (K := K) rfl (cv 0) rfl) pa_nil)) rfl)
        (pss_one (ps_ret (cv 1)))))))))), ?_⟩
    refine ci_make fun q dx hq hdx hne => ?_
    refine ⟨q, dx, rfl, upd_same, fun H2 A2 L => ⟨rfl, ?_⟩⟩
    have s2 : Same H H2 := fun b o hb => by
      have n1 : b ≠ q := ne_of_none hb hq
      have n2 : b ≠ dx := ne_of_none hb hdx
      refine L.but b o ?_ n1
      rw [upd_ne n1, upd_ne n2]
      exact hb
    have t2 : Tw D H H2 q A2.dx (rf 0 0 A2) := ⟨s2, L.road.obj, hq⟩
    refine ci_stations T (R.same t2.same) ?_
    refine ci_sput T.cl T.a_stations t2.obj (by simp [rf]) ?_
    have t3 := t2.put (putF "stations" (.int a.n) (rf 0 0 A2))
    refine ci_step T (R.same t3.same) ?_
    refine ci_sput T.cl T.a_step_cost t3.obj (Nat.lt_of_le_of_lt (Nat.le_refl 6) (by decide)) ?_
    have t4 := t3.put (putF "step_cost" (.int a.step) (putF "stations" (.int a.n) (rf 0 0 A2)))
    refine ci_had T (R.same t4.same) ?_
    refine ci_listof (IL.of (R.same t4.same).had) fun l1 h1 => ?_
    have t5 := t4.add (o := .lst ((Haul.zlist a.have_).map V.int)) h1
    have g1 : upd _ l1 (.lst ((Haul.zlist a.have_).map V.int)) l1 = _ := upd_same (H := (upd (upd H2 q (.ins D A2.dx (putF "stations" (.int a.n) (rf 0 0 A2)))) q (.ins D A2.dx (putF "step_cost" (.int a.step) (putF "stations" (.int a.n) (rf 0 0 A2))))))
    refine ci_sput T.cl T.a_had t5.obj (Nat.lt_of_le_of_lt (Nat.le_refl 6) (by decide)) ?_
    have t6 := t5.put (rf a.n a.step ⟨A2.dx, l1, A2.ln, A2.lb, A2.ls⟩)
    have g1 := t5.keep (fs' := rf a.n a.step ⟨A2.dx, l1, A2.ln, A2.lb, A2.ls⟩) g1
    have f1 : H l1 = none := t4.same.free h1
    refine ci_needed T (R.same t6.same) ?_
    refine ci_listof (IL.of (R.same t6.same).needed) fun l2 h2 => ?_
    have f2 : H l2 = none := t6.same.free h2
    have n12 : l1 ≠ l2 := ne_of_none g1 h2
    have t7 := t6.add (o := .lst ((Haul.zlist a.need).map V.int)) h2
    have g2 : upd _ l2 (.lst ((Haul.zlist a.need).map V.int)) l2 = some (.lst ((Haul.zlist a.need).map V.int)) := upd_same (H := upd (upd (upd (upd H2 q (.ins D A2.dx (putF "stations" (.int a.n) (rf 0 0 A2)))) q (.ins D A2.dx (putF "step_cost" (.int a.step) (putF "stations" (.int a.n) (rf 0 0 A2))))) l1 (.lst ((Haul.zlist a.have_).map V.int))) q (.ins D A2.dx (rf a.n a.step ⟨A2.dx, l1, A2.ln, A2.lb, A2.ls⟩)))
    have g1 := (Same.rfl.new (o := .lst ((Haul.zlist a.need).map V.int)) h2) _ _ g1
    refine ci_sput T.cl T.a_needed t7.obj (Nat.lt_of_le_of_lt (Nat.le_refl 6) (by decide)) ?_
    have t8 := t7.put (rf a.n a.step ⟨A2.dx, l1, l2, A2.lb, A2.ls⟩)
    have g1 := t7.keep (fs' := rf a.n a.step ⟨A2.dx, l1, l2, A2.lb, A2.ls⟩) g1
    have g2 := t7.keep (fs' := rf a.n a.step ⟨A2.dx, l1, l2, A2.lb, A2.ls⟩) g2
    refine ci_bor T (R.same t8.same) ?_
    refine ci_listof (IL.of (R.same t8.same).bor) fun l3 h3 => ?_
    have f3 : H l3 = none := t8.same.free h3
    have n13 : l1 ≠ l3 := ne_of_none g1 h3
    have n23 : l2 ≠ l3 := ne_of_none g2 h3
    have t9 := t8.add (o := .lst ((prs a.borrow).map V.int)) h3
    have g1 := (Same.rfl.new (o := .lst ((prs a.borrow).map V.int)) h3) _ _ g1
    have g2 := (Same.rfl.new (o := .lst ((prs a.borrow).map V.int)) h3) _ _ g2
    refine ci_sput T.cl T.a_borrow_prices t9.obj (Nat.lt_of_le_of_lt (Nat.le_refl 6) (by decide)) ?_
    have t10 := t9.put (rf a.n a.step ⟨A2.dx, l1, l2, l3, A2.ls⟩)
    have g1 := t9.keep (fs' := rf a.n a.step ⟨A2.dx, l1, l2, l3, A2.ls⟩) g1
    have g2 := t9.keep (fs' := rf a.n a.step ⟨A2.dx, l1, l2, l3, A2.ls⟩) g2
    have g3 := t9.keep (fs' := rf a.n a.step ⟨A2.dx, l1, l2, l3, A2.ls⟩) (l := l3) upd_same
    refine ci_spo T (R.same t10.same) ?_
    refine ci_listof (IL.of (R.same t10.same).spo) fun l4 h4 => ?_
    have f4 : H l4 = none := t10.same.free h4
    have n14 : l1 ≠ l4 := ne_of_none g1 h4
    have n24 : l2 ≠ l4 := ne_of_none g2 h4
    have n34 : l3 ≠ l4 := ne_of_none g3 h4
    have t11 := t10.add (o := .lst ((prs a.spoil).map V.int)) h4
    have g1 := (Same.rfl.new (o := .lst ((prs a.spoil).map V.int)) h4) _ _ g1
    have g2 := (Same.rfl.new (o := .lst ((prs a.spoil).map V.int)) h4) _ _ g2
    have g3 := (Same.rfl.new (o := .lst ((prs a.spoil).map V.int)) h4) _ _ g3
    refine ci_sput T.cl T.a_spoil_prices t11.obj (Nat.lt_of_le_of_lt (Nat.le_refl 6) (by decide)) ?_
    have t12 := t11.put (rf a.n a.step ⟨A2.dx, l1, l2, l3, l4⟩)
    have g1 := t11.keep (fs' := rf a.n a.step ⟨A2.dx, l1, l2, l3, l4⟩) g1
    have g2 := t11.keep (fs' := rf a.n a.step ⟨A2.dx, l1, l2, l3, l4⟩) g2
    have g3 := t11.keep (fs' := rf a.n a.step ⟨A2.dx, l1, l2, l3, l4⟩) g3
    have g4 := t11.keep (fs' := rf a.n a.step ⟨A2.dx, l1, l2, l3, l4⟩) (l := l4) upd_same
    refine k _ q ⟨A2.dx, l1, l2, l3, l4⟩ t12.same ⟨t12.obj, g1, g2, g3, g4, by simp [n12, n13, n14, n23, n24, n34]⟩ hq ?_
    intro b hb
    simp at hb
    rcases hb with rfl | rfl | rfl | rfl
    · exact f1
    · exact f2
    · exact f3
    · exact f4
end
end Hl
end
section
namespace Hl
open PySem PySem.Spec PyProof.Rows L2
section
variable {P : Program} {w : World} {K : PySem.W.Frag} {mg : Str → Option Value} {base : Heap}
section
variable {D : Addr} {H : Hp} {p l : Addr} {A : Ads} {a : Kv364.Abs}
theorem RoadAt.setBor (R : RoadAt D H p A a) {xs : List (Option Nat)} : RoadAt D (upd H A.lb (.lst ((prs xs).map V.int))) p A { a with borrow := xs } := by
  have nd := R.nd
  simp at nd
  obtain ⟨n1, n2, n3, n4⟩ := R.ne
  refine ⟨?_, ?_, ?_, ?_, ?_, R.nd⟩
  · rw [upd_ne n3, R.obj]; rfl
  · rw [upd_ne nd.1.2.1, R.had]
  · rw [upd_ne nd.2.1.1, R.needed]
  · rw [upd_same]
  · rw [upd_ne (by intro e; exact nd.2.2 e.symm), R.spo]
theorem RoadAt.setSpo (R : RoadAt D H p A a) {xs : List (Option Nat)} : RoadAt D (upd H A.ls (.lst ((prs xs).map V.int))) p A { a with spoil := xs } := by
  have nd := R.nd
  simp at nd
  obtain ⟨n1, n2, n3, n4⟩ := R.ne
  refine ⟨?_, ?_, ?_, ?_, ?_, R.nd⟩
  · rw [upd_ne n4, R.obj]; rfl
  · rw [upd_ne nd.1.2.2, R.had]
  · rw [upd_ne nd.2.1.2, R.needed]
  · rw [upd_ne nd.2.2, R.bor]
  · rw [upd_same]
theorem RoadAt.setStep (R : RoadAt D H p A a) {t : Nat} : RoadAt D (upd H p (.ins D A.dx (rf a.n t A))) p A { a with step := t } := by
  obtain ⟨n1, n2, n3, n4⟩ := R.ne
  refine ⟨upd_same, ?_, ?_, ?_, ?_, R.nd⟩
  · rw [upd_ne n1.symm, R.had]
  · rw [upd_ne n2.symm, R.needed]
  · rw [upd_ne n3.symm, R.bor]
  · rw [upd_ne n4.symm, R.spo]
end
structure Meths4 (P : Program) (w : World) (K : PySem.W.Frag) (mg : Str → Option Value) (base : Heap) (C : Addr) : Prop where
  twin : MCal P w K mg base C "twin" 4 ["self"] (sp_twin C)
theorem c_twin {D : Addr} {H : Hp} {p : Addr} {A : Ads} {a : Kv364.Abs} {Q : VK} (R : RoadAt D H p A a) (h : ∀ (H' : Hp) (q : Addr) (A' : Ads), Same H H' → RoadAt D H' q A' a → H q = none → (∀ b ∈ A'.all, H b = none) → Q (.ref q) H') : rSp (sp_twin D) [.ref p] H Q := ci_call ⟨p, A, a, rfl, R, h⟩
def sp_with_pit (D : Addr) : Sp := fun vs H Q _ => ∃ (p : Addr) (A : Ads) (a : Kv364.Abs) (i x : Int), vs = [.ref p, .int i, .int x] ∧ RoadAt D H p A a ∧ Haul.Ok a ∧ 0 ≤ i ∧ i < a.n ∧ 0 ≤ x ∧ x ≤ 50 ∧ ∀ H', Same H H' → Q (.int (costOf (a.withPit i.toNat x.toNat))) H'
abbrev s_cost_with_pit : Stmt := top 57
theorem sc_cost_with_pit : FnScope ["road", "i", "p", "other"] ["road", "i", "p"] (defScope s_cost_with_pit) := ⟨rfl, rfl, rfl, by decide +kernel, rfl, by decide +kernel, by decide +kernel⟩
theorem ok_cost_with_pit {f : Addr} {fd : FuncData} {D : Addr} (F : Fun K "cost_with_pit" "cost_with_pit" s_cost_with_pit f fd) (T : Txt K mg D) (M : Meths4 P w K mg base D) (C : Calls12 P w K mg base D) : FnOk P w K mg base CX0 5 f fd ["road", "i", "p"] (sp_with_pit D) := by
  have sc := sc_cost_with_pit
  refine F.ok sc (fun vs H Q E h => ?_) (fun cdv A outer s H vs Q E hr h => ?_)
  · obtain ⟨p, B, a, i, x, rfl, _⟩ := h
    rfl
  · obtain ⟨p, B, a, i, x, rfl, R, O, h0, h1, h2, h3, k⟩ := h
    refine ⟨_, (pss_cons (ps_set (i := 3) sc.nd rfl (Or.inl rfl) (ce_mcal0 M.twin hr (cv 0)))
        (pss_cons (ps_asg (cv 2) (pg_sub (ce_fld (K := K) rfl (cv 3) rfl) (cv 1) c_set))
        (pss_one (ps_ret (ce_cal C.cost_or_refusal hr (pa_cons (cv 3) pa_nil)))))), ?_⟩
    refine ci_methD R.obj rfl ?_
    refine c_twin R fun H1 q A1 s1 R1 f1 g1 => ?_
    refine ci_bor T R1 ?_
    refine ci_set R1.bor h0 (by rw [prs_len, O.borrow]; exact h1) ?_
    rw [prs_set h2]
    have O2 : Haul.Ok (a.withPit i.toNat x.toNat) := O.setBorrow fun p e => by cases e; omega
    refine c_cost R1.setBor O2 fun H2 s2 => ?_
    exact k H2 ((s1.re (g1 A1.lb (by simp))).trans s2)
theorem c_with_pit {D : Addr} {H : Hp} {p : Addr} {A : Ads} {a : Kv364.Abs} {i x : Int} {Q : VK} (R : RoadAt D H p A a) (O : Haul.Ok a) (h0 : 0 ≤ i) (h1 : i < a.n) (h2 : 0 ≤ x) (h3 : x ≤ 50) (h : ∀ H', Same H H' → Q (.int (costOf (a.withPit i.toNat x.toNat))) H') : rSp (sp_with_pit D) [.ref p, .int i, .int x] H Q := ci_call ⟨p, A, a, i, x, rfl, R, O, h0, h1, h2, h3, h⟩
structure Calls14 (P : Program) (w : World) (K : PySem.W.Frag) (mg : Str → Option Value) (base : Heap) (D : Addr) : Prop where
  cost_or_refusal : Cal P w K mg base "cost_or_refusal" 4 ["road"] (spRN D (fun _ => True) costOf)
  cost_with_pit : Cal P w K mg base "cost_with_pit" 5 ["road", "i", "p"] (sp_with_pit D)
  refusal : Cal P w K mg base "refusal" 1 ["road", "numbers", "most"] (sp_refusal K D)
  is_step : Cal P w K mg base "is_step" 1 ["t"] sp_is_step
theorem c_is_step {t : Int} {H : Hp} {Q : VK} (h1 : 1 ≤ t ∧ t ≤ 10 → Q (.bl true) H) (h2 : ¬ (1 ≤ t ∧ t ≤ 10) → Q (.bl false) H) : rSp sp_is_step [.int t] H Q := by
  refine ci_call ⟨t, rfl, ?_⟩
  by_cases c : 1 ≤ t ∧ t ≤ 10
  · rw [decide_eq_true c]; exact h1 c
  · rw [decide_eq_false c]; exact h2 c
theorem c_refusal {D : Addr} {H : Hp} {p q : Addr} {A : Ads} {a : Kv364.Abs} {i x m : Int} {Q : VK} (R : RoadAt D H p A a) (hq : IL K H q [i, x]) (h1 : (a.n : Int) ≤ i → Q (.int (-2)) H) (h2 : ¬ (a.n : Int) ≤ i → m < x → Q (.int (-22)) H) (h3 : ¬ (a.n : Int) ≤ i → ¬ m < x → Q (.int 0) H) : rSp (sp_refusal K D) [.ref p, .ref q, .int m] H Q := by
  refine ci_call ⟨p, A, a, q, i, x, m, rfl, R, hq, ?_⟩
  split
  · exact h1 (by assumption)
  · split
    · exact h2 (by assumption) (by assumption)
    · exact h3 (by assumption) (by assumption)
abbrev s_ifstep : Stmt := top 76
theorem sc_ifstep : FnScope ["road", "numbers", "t", "other"] ["road", "numbers"] (defScope s_ifstep) := ⟨rfl, rfl, rfl, by decide +kernel, rfl, by decide +kernel, by decide +kernel⟩
theorem ok_ifstep {f : Addr} {fd : FuncData} {D : Addr} (F : Fun K "ifstep" "ifstep" s_ifstep f fd) (T : Txt K mg D) (M : Meths4 P w K mg base D) (C : Calls14 P w K mg base D) : FnOk P w K mg base CX0 6 f fd ["road", "numbers"] (spCall K D Haul.Ok one fun a ns => a.does (.ifstep (n0 ns))) := by
  have sc := sc_ifstep
  refine F.ok sc (fun vs H Q E h => ?_) (fun cdv A outer s H vs Q E hr h => ?_)
  · obtain ⟨p, B, a, q, ns, rfl, _⟩ := h
    rfl
  · obtain ⟨p, B, a, q, _, rfl, R, O, hq, ⟨t, rfl, h0⟩, k⟩ := h
    refine ⟨_, (pss_cons (ps_set (i := 2) sc.nd rfl (Or.inl rfl) (pe_ix (c_ix (K := K) rfl) (cv 1) pe_int (fun _ _ => rfl)))
        (pss_cons (cs_if (pt_not (ct_val (ce_cal C.is_step hr (pa_cons (cv 2) pa_nil)))) (pss_one (ps_ret (ce_lst (pa_cons (pe_gi T.g_OUT_OF_RANGE) pa_nil)))) pss_nil)
        (pss_cons (ps_set (i := 3) sc.nd rfl (Or.inl rfl) (ce_mcal0 M.twin hr (cv 0)))
        (pss_cons (cs_fld (cv 3) (cv 2) rfl)
        (pss_one (ps_ret (ce_lst (pa_cons (ce_cal C.cost_or_refusal hr (pa_cons (cv 3) pa_nil)) pa_nil)))))))), ?_⟩
    have e0 : n0 [t] = t.toNat := rfl
    simp only [e0, Kv364.Abs.does, tells_eq] at k
    refine ci_ix hq (by decide) (by simp) ?_
    refine c_is_step (fun c => ?_) (fun c => ?_)
    · have c : 1 ≤ t ∧ t ≤ 10 := c
      rw [if_neg (by omega)] at k
      refine ci_methD R.obj rfl ?_
      refine c_twin R fun H1 r A1 s1 R1 f1 g1 => ?_
      refine ci_sput T.cl T.a_step_cost R1.obj (by simp [rf]) ?_
      have et : ((t.toNat : Nat) : Int) = t := by omega
      have R2 := R1.setStep (t := t.toNat)
      rw [et] at R2
      refine c_cost R2 (O.setStep (by omega)) fun H2 s2 => ?_
      exact ci_lst (by simp) fun l hl => fin (xs := [_]) k R ((s1.re f1).trans s2) hl rfl
    · have c : ¬ (1 ≤ t ∧ t ≤ 10) := c
      rw [if_pos (by omega)] at k
      exact ci_lst (xs := [.int (-22)]) (by decide) fun l hl => fin (xs := [-22]) k R Same.rfl hl rfl
abbrev s_ifpit : Stmt := top 77
theorem sc_ifpit : FnScope ["road", "numbers", "refused"] ["road", "numbers"] (defScope s_ifpit) := ⟨rfl, rfl, rfl, by decide +kernel, rfl, by decide +kernel, by decide +kernel⟩
theorem ok_ifpit {f : Addr} {fd : FuncData} {D : Addr} (F : Fun K "ifpit" "ifpit" s_ifpit f fd) (T : Txt K mg D) (C : Calls14 P w K mg base D) : FnOk P w K mg base CX0 6 f fd ["road", "numbers"] (spCall K D Haul.Ok two fun a ns => a.does (.ifpit (n0 ns) (n1 ns))) := by
  have sc := sc_ifpit
  refine F.ok sc (fun vs H Q E h => ?_) (fun cdv A outer s H vs Q E hr h => ?_)
  · obtain ⟨p, B, a, q, ns, rfl, _⟩ := h
    rfl
  · obtain ⟨p, B, a, q, _, rfl, R, O, hq, ⟨i, x, rfl, h0, h1⟩, k⟩ := h
    refine ⟨_, (pss_cons (ps_set (i := 2) sc.nd rfl (Or.inl rfl) (ce_cal C.refusal hr (pa_cons (cv 0) (pa_cons (cv 1) (pa_cons (pe_gi T.g_MOST_PRICE) pa_nil)))))
        (pss_cons (cs_if (ct_cmpR (c_I0 op_lt) (cv 2) pe_int (nomark _)) (pss_one (ps_ret (ce_lst (pa_cons (cv 2) pa_nil)))) pss_nil)
        (pss_one (ps_ret (ce_lst (pa_cons (ce_cal C.cost_with_pit hr (pa_cons (cv 0) (pa_cons (pe_ix (c_ix (K := K) rfl) (cv 1) pe_int (fun _ _ => rfl)) (pa_cons (pe_ix (c_ix (K := K) rfl) (cv 1) pe_int (fun _ _ => rfl)) pa_nil)))) pa_nil)))))), ?_⟩
    have e0 : n0 [i, x] = i.toNat := rfl
    have e1 : n1 [i, x] = x.toNat := rfl
    simp only [e0, e1, Kv364.Abs.does, tells_eq] at k
    refine c_refusal R hq (fun c1 => ?_) (fun c1 c2 => ?_) (fun c1 c2 => ?_)
    · rw [if_pos (by omega)] at k
      exact ci_lst (xs := [.int (-2)]) (by decide) fun l hl => fin (xs := [-2]) k R Same.rfl hl rfl
    · rw [if_neg (by omega), if_pos (by omega)] at k
      exact ci_lst (xs := [.int (-22)]) (by decide) fun l hl => fin (xs := [-22]) k R Same.rfl hl rfl
    · rw [if_neg (by omega), if_neg (by omega)] at k
      refine ci_ix hq (by decide) (by simp) ?_
      refine ci_ix hq (by decide) (by simp) ?_
      refine c_with_pit (i := i) (x := x) R O h0 (by omega) h1 (by omega) fun H1 s1 => ?_
      exact ci_lst (by simp) fun l hl => fin (xs := [_]) k R s1 hl rfl
abbrev s_without : Stmt := top 79
theorem sc_without : FnScope ["road", "numbers", "i", "other"] ["road", "numbers"] (defScope s_without) := ⟨rfl, rfl, rfl, by decide +kernel, rfl, by decide +kernel, by decide +kernel⟩
theorem ok_without {f : Addr} {fd : FuncData} {D : Addr} (F : Fun K "without" "without" s_without f fd) (T : Txt K mg D) (M : Meths4 P w K mg base D) (C : Calls14 P w K mg base D) : FnOk P w K mg base CX0 6 f fd ["road", "numbers"] (spCall K D Haul.Ok one fun a ns => a.does (.without (n0 ns))) := by
  have sc := sc_without
  refine F.ok sc (fun vs H Q E h => ?_) (fun cdv A outer s H vs Q E hr h => ?_)
  · obtain ⟨p, B, a, q, ns, rfl, _⟩ := h
    rfl
  · obtain ⟨p, B, a, q, _, rfl, R, O, hq, ⟨i, rfl, h0⟩, k⟩ := h
    refine ⟨_, (pss_cons (ps_set (i := 2) sc.nd rfl (Or.inl rfl) (pe_ix (c_ix (K := K) rfl) (cv 1) pe_int (fun _ _ => rfl)))
        (pss_cons (cs_if (ct_cmpR (c_I0 op_ge) (cv 2) (ce_fld (K := K) rfl (cv 0) rfl) (nomark _)) (pss_one (ps_ret (ce_lst (pa_cons (pe_gi T.g_NO_STATION) pa_nil)))) pss_nil)
        (pss_cons (ps_set (i := 3) sc.nd rfl (Or.inl rfl) (ce_mcal0 M.twin hr (cv 0)))
        (pss_cons (ps_asg (pe_gi T.g_NO_PIT) (pg_sub (ce_fld (K := K) rfl (cv 3) rfl) (cv 2) c_set))
        (pss_cons (ps_asg (pe_gi T.g_NO_PIT) (pg_sub (ce_fld (K := K) rfl (cv 3) rfl) (cv 2) c_set))
        (pss_one (ps_ret (ce_lst (pa_cons (ce_cal C.cost_or_refusal hr (pa_cons (cv 3) pa_nil)) pa_nil))))))))), ?_⟩
    have e0 : n0 [i] = i.toNat := rfl
    simp only [e0, Kv364.Abs.does, tells_eq] at k
    refine ci_ix hq (by decide) (by simp) ?_
    refine ci_stations T R ?_
    refine ci_ite (fun c => ?_) (fun c => ?_)
    · have c : (a.n : Int) ≤ i := c
      rw [if_pos (by omega)] at k
      exact ci_lst (xs := [.int (-2)]) (by decide) fun l hl => fin (xs := [-2]) k R Same.rfl hl rfl
    · have c : ¬ (a.n : Int) ≤ i := c
      rw [if_neg (by omega)] at k
      refine ci_methD R.obj rfl ?_
      refine c_twin R fun H1 r A1 s1 R1 f1 g1 => ?_
      refine ci_bor T R1 ?_
      refine ci_set R1.bor h0 (by rw [prs_len, O.borrow]; omega) ?_
      have R2 : RoadAt D (upd H1 A1.lb (.lst (((prs a.borrow).set i.toNat (-1)).map V.int))) r A1 { a with borrow := a.borrow.set i.toNat none } := by
        rw [prs_set_none]
        exact R1.setBor
      refine ci_spo T R2 ?_
      refine ci_set R2.spo h0 (by rw [prs_len, O.spoil]; omega) ?_
      have R3 : RoadAt D (upd (upd H1 A1.lb (.lst (((prs a.borrow).set i.toNat (-1)).map V.int))) A1.ls (.lst (((prs a.spoil).set i.toNat (-1)).map V.int))) r A1 { a with borrow := a.borrow.set i.toNat none, spoil := a.spoil.set i.toNat none } := by
        rw [prs_set_none (xs := a.spoil)]
        exact R2.setSpo
      refine c_cost R3 ((O.setBorrow (o := none) (fun p e => by cases e)).setSpoil (o := none) (fun p e => by cases e)) fun H2 s2 => ?_
      exact ci_lst (by simp) fun l hl => fin (xs := [_]) k R (((s1.re (g1 A1.lb (by simp))).re (g1 A1.ls (by simp))).trans s2) hl rfl
theorem costOf_none {a : Kv364.Abs} (h : a.best.map Kv364.Plan.cost = none) : costOf a = -33 := by
  unfold costOf
  cases e : a.best with
  | none => rfl
  | some b => rw [e] at h; cases h
theorem costOf_some {a : Kv364.Abs} {c : Int} (h : a.best.map Kv364.Plan.cost = some c) : costOf a = c := by
  unfold costOf
  cases e : a.best with
  | none => rw [e] at h; cases h
  | some b => rw [e] at h; exact Option.some.inj h
abbrev s_bestpit : Stmt := top 78
theorem sc_bestpit : FnScope ["road", "numbers", "p", "costs", "found", "i", "known"] ["road", "numbers"] (defScope s_bestpit) := ⟨rfl, rfl, rfl, by decide +kernel, rfl, by decide +kernel, by decide +kernel⟩
theorem ok_bestpit {f : Addr} {fd : FuncData} {D : Addr} (F : Fun K "bestpit" "bestpit" s_bestpit f fd) (T : Txt K mg D) (C : Calls14 P w K mg base D) : FnOk P w K mg base CX0 6 f fd ["road", "numbers"] (spCall K D Haul.Ok one fun a ns => a.does (.bestpit (n0 ns))) := by
  have sc := sc_bestpit
  refine F.ok sc (fun vs H Q E h => ?_) (fun cdv A outer s H vs Q E hr h => ?_)
  · obtain ⟨p, B, a, q, ns, rfl, _⟩ := h
    rfl
  · obtain ⟨p, B, a, q, _, rfl, R, O, hq, ⟨x, rfl, h0⟩, k⟩ := h
    have n8 := O.n8
    have n2 := O.n2
    refine ⟨_, (pss_cons (ps_set (i := 2) sc.nd rfl (Or.inr rfl) (pe_ix (c_ix (K := K) rfl) (cv 1) pe_int (fun _ _ => rfl)))
        (pss_cons (cs_if (ct_cmpR (c_I0 op_gt) (cv 2) (pe_gi T.g_MOST_PRICE) (nomark _)) (pss_one (ps_ret (ce_lst (pa_cons (pe_gi T.g_OUT_OF_RANGE) pa_nil)))) pss_nil)
        (pss_cons (cs_setLC rfl sc.nd (i := 3) rfl rfl (sw_true rfl rfl rfl rfl) (cpi_range1 rfl T.n_range (pa_cons (ce_fld (K := K) rfl (cv 0) rfl) pa_nil)) (own := [("i", 5)]) (blkOk_by (by show blkC ["road", "numbers", "p", "costs", "found", "i", "known"] (defScope s_bestpit) _ _ = true; decide +kernel)) (fun _ _ _ _ _ => (pg_name (i := 5) sc.nd rfl (Or.inl rfl))) (fun _ _ _ _ _ => pts_nil) (fun _ _ _ _ _ => (ce_cal C.cost_with_pit hr (pa_cons (cv 0) (pa_cons (cv 5) (pa_cons (cv 2) pa_nil))))))
        (pss_cons (cs_setLC rfl sc.nd (i := 4) rfl rfl (sw_true rfl rfl rfl rfl) (cpi_list (K := K) rfl (cv 3)) (own := [("known", 6)]) (blkOk_by (by show blkC ["road", "numbers", "p", "costs", "found", "i", "known"] (defScope s_bestpit) _ _ = true; decide +kernel)) (fun _ _ _ _ _ => (pg_name (i := 6) sc.nd rfl (Or.inl rfl))) (fun _ _ _ _ _ => (pts_one (ct_cmpR c_ne (cv 6) (pe_gi T.g_CANNOT_BE) (nomark _)))) (fun _ _ _ _ _ => (cv 6)))
        (pss_cons (cs_if (ct_cmpR c_eq (pe_callB (call_lenC (K := K) rfl) rfl T.n_len boot_len0 (pa_cons (cv 4) pa_nil)) pe_int (nomark _)) (pss_one (ps_ret (ce_lst (pa_cons (pe_gi T.g_CANNOT_BE) pa_nil)))) pss_nil)
        (pss_one (ps_ret (ce_lst (pa_cons (ce_bm (K := K) rfl PySem.F.slot_list_index PySem.F.type_list_index (cmt_index (K := K) rfl) (cv 3) (pa_cons (pe_callB (call_minLC (K := K) rfl rfl) rfl T.n_min boot_min0 (pa_cons (cv 4) pa_nil)) pa_nil)) (pa_cons (pe_callB (call_minLC (K := K) rfl rfl) rfl T.n_min boot_min0 (pa_cons (cv 4) pa_nil)) pa_nil)))))))))), ?_⟩
    have e0 : n0 [x] = x.toNat := rfl
    simp only [e0, Kv364.Abs.does] at k
    refine ci_ix hq (by decide) (by simp) ?_
    refine ci_ite (fun c => ?_) (fun c => ?_)
    · have c : 50 < x := c
      rw [if_pos (by omega)] at k
      exact ci_lst (xs := [.int (-22)]) (by decide) fun l hl => fin (xs := [-22]) k R Same.rfl hl rfl
    · have c : ¬ 50 < x := c
      rw [if_neg (by omega), Haul.bestPit_fold] at k
      refine ci_stations T R ?_
      refine ci_rng1 (by omega) (by omega) ?_
      refine ci_lcRng (n := a.n) (fun i => costOf (a.withPit i x.toNat)) (by omega) (fun i H' Rr hi hS hR => ?_) (fun H1 cl s1 f1 hC => ?_)
      · refine ⟨rfl, ?_⟩
        refine c_with_pit (i := (i : Int)) (x := x) (R.same hS) O (by omega) (by omega) h0 (by omega) fun H2 s2 => ?_
        exact hR H2 s2
      · have O2 : ∀ i, Haul.Ok (a.withPit i x.toNat) := fun i => O.setBorrow fun p e => by cases e; omega
        have nn : ∀ i m, ((a.withPit i x.toNat).best).map Kv364.Plan.cost = some m → 0 ≤ m := fun i m e => by
          obtain ⟨b, hb, rfl⟩ := Option.map_eq_some_iff.mp e
          exact (O2 i).cost_nonneg hb
        have cg : ∀ i, i < a.n → ((List.range a.n).map fun i => costOf (a.withPit i x.toNat)).getD i 0 = costOf (a.withPit i x.toNat) := fun i hi => by
          rw [List.getD_eq_getElem?_getD, List.getElem?_map, List.getElem?_range hi]
          rfl
        have cl_len : ((List.range a.n).map fun i => costOf (a.withPit i x.toNat)).length = a.n := by simp
        refine ci_ilist (IL.of hC) ?_
        refine ci_lcLstF (xs := (List.range a.n).map fun i => costOf (a.withPit i x.toNat)) (fun i => decide (¬ ((List.range a.n).map fun i => costOf (a.withPit i x.toNat)).getD i 0 = -33)) (fun i => ((List.range a.n).map fun i => costOf (a.withPit i x.toNat)).getD i 0) (IL.of hC) (by rw [cl_len]; omega) (fun i H' Rr N hi hS hR hN => ?_) (fun H2 fl s2 f2 hF => ?_)
        · refine ⟨rfl, ?_⟩
          refine i_ite (fun c => ?_) (fun c => ?_)
          · exact hR (decide_eq_true c) _ Same.rfl
          · exact hN (decide_eq_false c) _ Same.rfl
        · rw [cl_len] at hF
          generalize hfs : ((List.range a.n).filter fun i => decide (¬ ((List.range a.n).map fun i => costOf (a.withPit i x.toNat)).getD i 0 = -33)).map (fun i => ((List.range a.n).map fun i => costOf (a.withPit i x.toNat)).getD i 0) = fs at hF
          have mf : ∀ v, v ∈ fs ↔ ∃ i, i < a.n ∧ ¬ costOf (a.withPit i x.toNat) = -33 ∧ costOf (a.withPit i x.toNat) = v := fun v => by
            rw [← hfs, List.mem_map]
            constructor
            · rintro ⟨i, hi, e⟩
              obtain ⟨hi1, hi2⟩ := List.mem_filter.mp hi
              have hi1 := List.mem_range.mp hi1
              have hi2 := of_decide_eq_true hi2
              rw [cg i hi1] at hi2 e
              exact ⟨i, hi1, hi2, e⟩
            · rintro ⟨i, hi1, hi2, e⟩
              refine ⟨i, List.mem_filter.mpr ⟨List.mem_range.mpr hi1, decide_eq_true ?_⟩, ?_⟩
              · rw [cg i hi1]; exact hi2
              · rw [cg i hi1]; exact e
          refine ci_len (IL.of hF) ?_
          have s12 := s1.trans s2
          rcases Haul.pickPit_range a.n (fun i => ((a.withPit i x.toNat).best).map Kv364.Plan.cost) with ⟨e, no⟩ | ⟨j, m, e, hj, hm, le, first⟩
          · rw [e] at k
            have fz : fs = [] := List.eq_nil_iff_forall_not_mem.mpr fun v hv => by
              obtain ⟨i, hi, h1, _⟩ := (mf v).mp hv
              exact h1 (costOf_none (no i hi))
            refine ci_ite (fun c => ?_) (fun c => ?_)
            · exact ci_lst (xs := [.int (-33)]) (by decide) fun l hl => fin (xs := [-33]) k R s12 hl rfl
            · exact absurd (show (fs.length : Int) = 0 by rw [fz]; rfl) c
          · rw [e] at k
            have cm : costOf (a.withPit j x.toNat) = m := costOf_some hm
            have m0 := nn j m hm
            have hmf : m ∈ fs := (mf m).mpr ⟨j, hj, by omega, cm⟩
            have lef : ∀ v ∈ fs, m ≤ v := fun v hv => by
              obtain ⟨i, hi, h1, h2⟩ := (mf v).mp hv
              cases eb : ((a.withPit i x.toNat).best).map Kv364.Plan.cost with
              | none => exact absurd (costOf_none eb) h1
              | some c' =>
                have := le i c' hi eb
                rw [costOf_some eb] at h2
                omega
            have fl0 : 0 < fs.length := List.length_pos_of_mem hmf
            refine ci_ite (fun c => ?_) (fun c => ?_)
            · have c : (fs.length : Int) = 0 := c
              omega
            · refine ci_bmS (IL.of (s2 _ _ hC)) ?_
              refine ci_minL (IL.of hF) fl0 fun M1 m1 m2 => ?_
              have eM : M1 = m := by have := lef M1 m1; have := m2 m hmf; omega
              subst eM
              refine ci_index (j := j) (IL.of (s2 _ _ hC)) (by rw [cl_len]; exact hj) (by rw [cg j hj]; exact cm) (fun i hi => ?_) ?_
              · rw [cg i (by omega)]
                intro e2
                cases eb : ((a.withPit i x.toNat).best).map Kv364.Plan.cost with
                | none => rw [costOf_none eb] at e2; omega
                | some c' =>
                  rw [costOf_some eb] at e2
                  exact first i hi (by rw [eb, e2])
              · refine ci_minL (IL.of hF) fl0 fun M2 m3 m4 => ?_
                have eM : M2 = M1 := by have := lef M2 m3; have := m4 M1 hmf; omega
                subst eM
                exact ci_lst (xs := [.int (j : Nat), .int M2]) (by simp) fun l hl => fin (xs := [(j : Int), M2]) k R s12 hl rfl
end
end Hl
end
section
namespace Hl
open PySem PySem.Spec PyProof.Rows L2
section
variable {P : Program} {w : World} {K : PySem.W.Frag} {mg : Str → Option Value} {base : Heap}
theorem c_loads {D : Addr} {H : Hp} {p wl : Addr} {A : Ads} {a : Kv364.Abs} {fs : List Int} {Q : VK} (R : RoadAt D H p A a) (O : Haul.Ok a) (h1 : IL K H wl fs) (h2 : fs.length = a.n)
    (h : ∀ (H' : Hp) (l : Addr) (ts : List Addr), Same H H' → H l = none → LoadsAt H' l ts (Haul.clo 0 (Haul.zlist (Haul.lefts a (Kv364.pits a.spots 0 fs))) 0 (Haul.zlist (Haul.lacks a (Kv364.pits a.spots 0 fs)))) → Q (.ref l) H') : rSp (sp_loads_of K D) [.ref p, .ref wl] H Q := ci_call ⟨p, A, a, wl, fs, rfl, R, O, h1, h2, h⟩
def flat3 (ds : List (Nat × Nat × Int)) : List Int := ds.flatMap fun x => [(x.1 : Int), (x.2.1 : Int), x.2.2]
theorem flat3_len : ∀ ds : List (Nat × Nat × Int), (flat3 ds).length = 3 * ds.length
  | [] => rfl
  | x :: ds => by
    have := flat3_len ds
    unfold flat3 at this ⊢
    rw [List.flatMap_cons, List.length_append, this, List.length_cons]
    simp
    omega
theorem flat3_take {ds : List (Nat × Nat × Int)} {i : Nat} {x : Nat × Nat × Int} (h : ds[i]? = some x) : flat3 (ds.take (i + 1)) = flat3 (ds.take i) ++ [(x.1 : Int), (x.2.1 : Int), x.2.2] := by
  obtain ⟨hi, e⟩ := List.getElem?_eq_some_iff.mp h
  unfold flat3
  rw [List.take_add_one, h, List.flatMap_append]
  simp
theorem clo_len : ∀ (m : Nat) (i : Nat) (l : List Int) (j : Nat) (r : List Int), l.length + r.length ≤ m → (Haul.clo i l j r).length ≤ l.length + r.length
  | m, i, [], j, r, _ => by rw [Haul.clo_nil1]; simp
  | m, i, x :: l, j, [], _ => by rw [Haul.clo_nil2]; simp
  | 0, i, x :: l, j, y :: r, h => by simp at h
  | m + 1, i, x :: l, j, y :: r, h => by
    rw [Haul.clo_cons, List.length_append]
    simp only [List.length_cons] at h ⊢
    have h1 : (if 0 < Haul.mn x y ∧ i ≠ j then [(i, j, Haul.mn x y)] else []).length ≤ 1 := by split <;> simp
    have h2 : (if x - Haul.mn x y = 0 then Haul.clo (i + 1) l j ((y - Haul.mn x y) :: r) else Haul.clo i ((x - Haul.mn x y) :: l) (j + 1) r).length ≤ l.length + r.length + 1 := by
      split
      · have := clo_len m (i + 1) l j ((y - Haul.mn x y) :: r) (by simp only [List.length_cons]; omega)
        simp only [List.length_cons] at this
        omega
      · have := clo_len m i ((x - Haul.mn x y) :: l) (j + 1) r (by simp only [List.length_cons]; omega)
        simp only [List.length_cons] at this
        omega
    omega
abbrev s_loads : Stmt := top 70
theorem sc_loads : FnScope ["road", "numbers", "found", "told", "load"] ["road", "numbers"] (defScope s_loads) := ⟨rfl, rfl, rfl, by decide +kernel, rfl, by decide +kernel, by decide +kernel⟩
theorem ok_loads {f : Addr} {fd : FuncData} {D : Addr} (F : Fun K "loads" "loads" s_loads f fd) (T : Txt K mg D) (M : Meths3 P w K mg base D) (C : Calls10 P w K mg base D) : FnOk P w K mg base CX0 5 f fd ["road", "numbers"] (spCall K D Haul.Ok (fun _ => True) fun a _ => a.does .loads) := by
  have sc := sc_loads
  refine F.ok sc (fun vs H Q E h => ?_) (fun cdv A outer s H vs Q E hr h => ?_)
  · obtain ⟨p, B, a, q, ns, rfl, _⟩ := h
    rfl
  · obtain ⟨p, B, a, q, ns, rfl, R, O, _, _, k⟩ := h
    have n8 := O.n8
    refine ⟨_, (pss_cons (cs_if (pt_not (ct_val (ce_mcal0 M.has_way hr (cv 0)))) (pss_one (ps_ret (ce_lst (pa_cons (pe_gi T.g_CANNOT_BE) pa_nil)))) pss_nil)
        (pss_cons (ps_set (i := 2) sc.nd rfl (Or.inl rfl) (ce_cal C.loads_of hr (pa_cons (cv 0) (pa_cons (ce_cal C.cheapest_way hr (pa_cons (cv 0) pa_nil)) pa_nil))))
        (pss_cons (ps_set (i := 3) sc.nd rfl (Or.inl rfl) (ce_lst (pa_cons (pe_callB (call_lenC (K := K) rfl) rfl T.n_len boot_len0 (pa_cons (cv 2) pa_nil)) pa_nil)))
        (pss_cons (cs_for PassesOwn.never rfl (cpi_list (K := K) rfl (cv 2)) (pg_name (i := 4) sc.nd rfl (Or.inl rfl)) (pss_one (ps_expr (ce_bm (K := K) rfl PySem.F.slot_list_extend PySem.F.type_list_extend cmt_extendT (cv 3) (pa_cons (cv 4) pa_nil)))))
        (pss_one (ps_ret (cv 3))))))), ?_⟩
    simp only [Kv364.Abs.does] at k
    refine ci_methD R.obj rfl ?_
    refine c_has_way R O (fun e => ?_) (fun b e => ?_)
    · rw [e] at k
      exact ci_lst (xs := [.int (-33)]) (by decide) fun l hl => fin (xs := [-33]) k R Same.rfl hl rfl
    · rw [e] at k
      dsimp only at k
      have hlen := (O.best e).2.2.2
      have hlo := Haul.loadsOf_eq a b
      generalize hds : Haul.clo 0 (Haul.zlist (Haul.lefts a (Kv364.pits a.spots 0 b.flows))) 0 (Haul.zlist (Haul.lacks a (Kv364.pits a.spots 0 b.flows))) = ds at hlo
      have hdl : ds.length ≤ 16 := by
        rw [← hds]
        refine Nat.le_trans (clo_len _ _ _ _ _ (Nat.le_refl _)) ?_
        simp [Haul.zlist, Haul.lefts, Haul.lacks]
        omega
      have hk : ((a.loadsOf b).length : Int) = (ds.length : Int) := by rw [← hlo, List.length_map]
      have hf : (a.loadsOf b).flatMap (fun x => [(x.1 : Int), (x.2.1 : Int), (x.2.2 : Int)]) = flat3 ds := by
        rw [← hlo]
        unfold flat3
        rw [List.flatMap_map]
      rw [hk, hf] at k
      refine c_way R O e fun H1 wl s1 f1 hw => ?_
      refine c_loads (R.same s1) O (IL.of hw) hlen fun H2 dl ts s2 f2 LA => ?_
      rw [hds] at LA
      refine ci_lenL (SqL.of LA.lst) ?_
      rw [List.length_map, LA.len]
      refine ci_lst (by simp) fun g hg => ?_
      have s3 : Same H2 (upd H2 g (.lst [V.int (ds.length : Int)])) := Same.rfl.new hg
      have fg : H g = none := (s1.trans s2).free hg
      refine ci_for ?_
      refine ci_ilist (SqL.of (s3 _ _ LA.lst)) ?_
      refine for_list (K := K) (a := dl) (xs := ts.map V.ref) (fun i σ H' => ∃ v : Option V, σ = [some (.ref p), some (.ref q), some (.ref dl), some (.ref g), v] ∧ Same H2 H' ∧ H' g = some (.lst (((ds.length : Int) :: flat3 (ds.take i)).map V.int)))
        ⟨none, rfl, s3, upd_same⟩ (fun i σ H' _ ⟨_, _, s4, _⟩ => SqL.of (s4 _ _ LA.lst)) ?_ ?_
      · rintro i y σ H' hi ⟨v, rfl, s4, hG⟩
        rw [List.getElem?_map] at hi
        cases et : ts[i]? with
        | none => rw [et] at hi; cases hi
        | some t =>
          rw [et] at hi
          have ey : V.ref t = y := Option.some.inj hi
          subst ey
          have hi2 := (List.getElem?_eq_some_iff.mp et).1
          obtain ⟨x, hx⟩ : ∃ x, ds[i]? = some x := ⟨_, List.getElem?_eq_getElem (by rw [← LA.len]; exact hi2)⟩
          have hT := s4 _ _ (LA.at_ i t x et hx)
          refine ci_bm hG ?_
          refine ci_extT hG hT (by have := flat3_len (ds.take i); rw [List.length_map, List.length_cons, this, List.length_take]; simp; omega) ?_
          refine ⟨_, rfl, s4.re hg, ?_⟩
          rw [upd_same, flat3_take hx]
          simp
      · rintro σ H' ⟨v, rfl, s4, hG⟩
        rw [List.length_map, LA.len, List.take_length] at hG
        exact k H' g B (R.same ((s1.trans s2).trans s4)) (Moved.same ((s1.trans s2).trans s4)) fg hG
abbrev s_farthest : Stmt := top 80
theorem sc_farthest : FnScope ["road", "numbers", "load"] ["road", "numbers"] (defScope s_farthest) := ⟨rfl, rfl, rfl, by decide +kernel, rfl, by decide +kernel, by decide +kernel⟩
theorem ok_farthest {f : Addr} {fd : FuncData} {D : Addr} (F : Fun K "farthest" "farthest" s_farthest f fd) (T : Txt K mg D) (M : Meths3 P w K mg base D) (C : Calls10 P w K mg base D) : FnOk P w K mg base CX0 5 f fd ["road", "numbers"] (spCall K D Haul.Ok (fun _ => True) fun a _ => a.does .farthest) := by
  have sc := sc_farthest
  refine F.ok sc (fun vs H Q E h => ?_) (fun cdv A outer s H vs Q E hr h => ?_)
  · obtain ⟨p, B, a, q, ns, rfl, _⟩ := h
    rfl
  · obtain ⟨p, B, a, q, ns, rfl, R, O, _, _, k⟩ := h
    have n8 := O.n8
    refine ⟨_, (pss_cons (cs_if (pt_not (ct_val (ce_mcal0 M.has_way hr (cv 0)))) (pss_one (ps_ret (ce_lst (pa_cons (pe_gi T.g_CANNOT_BE) pa_nil)))) pss_nil)
        (pss_one (ps_ret (ce_lst (pa_cons (pe_callBK (call_maxD (K := K) rfl rfl) rfl T.n_max boot_max0 (pa_cons (ce_LC rfl sc.nd (cpi_list (K := K) rfl (ce_cal C.loads_of hr (pa_cons (cv 0) (pa_cons (ce_cal C.cheapest_way hr (pa_cons (cv 0) pa_nil)) pa_nil)))) (own := [("load", 2)]) (blkOk_by (by show blkC ["road", "numbers", "load"] (defScope s_farthest) _ _ = true; decide +kernel)) (fun _ _ _ _ _ => (pg_name (i := 2) sc.nd rfl (Or.inl rfl))) (fun _ _ _ _ _ => pts_nil) (fun _ _ _ _ _ => (pe_callB call_absC rfl T.n_abs boot_abs0 (pa_cons (pe_op (c_I0 op_sub) (pe_ix (c_ixT (K := K) rfl) (cv 2) pe_int (fun _ _ => rfl)) (pe_ix (c_ixT (K := K) rfl) (cv 2) pe_int (fun _ _ => rfl))) pa_nil)))) pa_nil) (pk_cons pe_int pk_nil)) pa_nil))))), ?_⟩
    simp only [Kv364.Abs.does] at k
    refine ci_methD R.obj rfl ?_
    refine c_has_way R O (fun e => ?_) (fun b e => ?_)
    · rw [e] at k
      exact ci_lst (xs := [.int (-33)]) (by decide) fun l hl => fin (xs := [-33]) k R Same.rfl hl rfl
    · rw [e] at k
      dsimp only at k
      have hlen := (O.best e).2.2.2
      have hlo := Haul.loadsOf_eq a b
      generalize hds : Haul.clo 0 (Haul.zlist (Haul.lefts a (Kv364.pits a.spots 0 b.flows))) 0 (Haul.zlist (Haul.lacks a (Kv364.pits a.spots 0 b.flows))) = ds at hlo
      have hdl : ds.length ≤ 16 := by
        rw [← hds]
        refine Nat.le_trans (clo_len _ _ _ _ _ (Nat.le_refl _)) ?_
        simp [Haul.zlist, Haul.lefts, Haul.lacks]
        omega
      refine c_way R O e fun H1 wl s1 f1 hw => ?_
      refine c_loads (R.same s1) O (IL.of hw) hlen fun H2 dl ts s2 f2 LA => ?_
      rw [hds] at LA
      generalize hlo2 : (a.loadsOf b).map (fun x => (x.1 - x.2.1) + (x.2.1 - x.1)) = far at k
      have el : far.length = ds.length := by rw [← hlo2, ← hlo, List.length_map, List.length_map]
      have at_ : ∀ (q : Nat) (x : Nat × Nat × Int), ds[q]? = some x → far[q]? = some ((x.1 - x.2.1) + (x.2.1 - x.1)) := fun q x hq => by
        rw [← hlo, List.getElem?_map] at hq
        rw [← hlo2, List.getElem?_map]
        cases ez : (a.loadsOf b)[q]? with
        | none => rw [ez] at hq; cases hq
        | some z =>
          rw [ez] at hq
          have := Option.some.inj hq
          subst this
          rfl
      have hdl2 : (ts.map V.ref).length = far.length := by rw [List.length_map, LA.len, el]
      refine ci_ilist (SqL.of LA.lst) ?_
      refine ci_lcAny (xs := ts.map V.ref) (fun i => ((far.getD i 0 : Nat) : Int)) (SqL.of LA.lst) (by omega) (fun i H' v Rr hi hS hR => ?_) (fun H3 ml s3 f3 hM => ?_)
      · rw [List.getElem?_map] at hi
        cases et : ts[i]? with
        | none => rw [et] at hi; cases hi
        | some t =>
          rw [et] at hi
          have ev := Option.some.inj hi
          subst ev
          have hi2 := (List.getElem?_eq_some_iff.mp et).1
          obtain ⟨x, hx⟩ : ∃ x, ds[i]? = some x := ⟨_, List.getElem?_eq_getElem (by rw [← LA.len]; exact hi2)⟩
          have hT := hS _ _ (LA.at_ i t x et hx)
          refine ⟨rfl, ?_⟩
          refine ci_ixT (SqT.of hT) (by decide) rfl ?_
          refine ci_ixT (SqT.of hT) (by decide) rfl ?_
          have q := hR _ Same.rfl
          have ex : ((far.getD i 0 : Nat) : Int) = (if (x.1 : Int) - (x.2.1 : Int) < 0 then -((x.1 : Int) - (x.2.1 : Int)) else (x.1 : Int) - (x.2.1 : Int)) := by
            rw [List.getD_eq_getElem?_getD, at_ i x hx]
            show (((x.1 - x.2.1) + (x.2.1 - x.1) : Nat) : Int) = _
            split <;> omega
          rw [ex] at q
          exact q
      · have em : (List.range (ts.map V.ref).length).map (fun i => ((far.getD i 0 : Nat) : Int)) = far.map Int.ofNat := by
          rw [hdl2]
          apply List.ext_getElem?
          intro i
          rw [List.getElem?_map, List.getElem?_map]
          by_cases hi : i < far.length
          · rw [List.getElem?_range hi, List.getElem?_eq_getElem hi]
            simp [List.getD_eq_getElem?_getD, List.getElem?_eq_getElem hi]
          · rw [List.getElem?_eq_none (by simpa using hi), List.getElem?_eq_none (by simpa using hi)]
            rfl
        rw [em] at hM
        have s5 := (s1.trans s2).trans s3
        refine ci_maxD (IL.of hM) (fun H4 ez s4 => ?_) (fun m H4 m1 m2 s4 => ?_)
        · have ef : far = [] := List.map_eq_nil_iff.mp ez
          subst ef
          exact ci_lst (xs := [.int 0]) (by decide) fun l hl => fin (xs := [0]) k R (s5.trans s4) hl rfl
        · obtain ⟨z, hz, rfl⟩ := List.mem_map.mp m1
          have ek : far.foldl max 0 = z := Haul.foldl_max_of far z (fun x hx => by
            have := m2 (Int.ofNat x) (List.mem_map.mpr ⟨x, hx, rfl⟩)
            exact Int.ofNat_le.mp this) 0 (Nat.zero_le _) (.inr hz)
          rw [ek] at k
          exact ci_lst (xs := [.int (Int.ofNat z)]) (by simp) fun l hl => fin (xs := [Int.ofNat z]) k R (s5.trans s4) hl rfl
abbrev s_station : Stmt := top 81
theorem sc_station : FnScope ["road", "numbers", "i"] ["road", "numbers"] (defScope s_station) := ⟨rfl, rfl, rfl, by decide +kernel, rfl, by decide +kernel, by decide +kernel⟩
theorem ok_station {f : Addr} {fd : FuncData} {D : Addr} (F : Fun K "station" "station" s_station f fd) (T : Txt K mg D) : FnOk P w K mg base CX0 5 f fd ["road", "numbers"] (spCall K D Haul.Ok one fun a ns => a.does (.station (n0 ns))) := by
  have sc := sc_station
  refine F.ok sc (fun vs H Q E h => ?_) (fun cdv A outer s H vs Q E hr h => ?_)
  · obtain ⟨p, B, a, q, ns, rfl, _⟩ := h
    rfl
  · obtain ⟨p, B, a, q, _, rfl, R, O, hq, ⟨i, rfl, h0⟩, k⟩ := h
    refine ⟨_, (pss_cons (ps_set (i := 2) sc.nd rfl (Or.inl rfl) (pe_ix (c_ix (K := K) rfl) (cv 1) pe_int (fun _ _ => rfl)))
        (pss_cons (cs_if (ct_cmpR (c_I0 op_ge) (cv 2) (ce_fld (K := K) rfl (cv 0) rfl) (nomark _)) (pss_one (ps_ret (ce_lst (pa_cons (pe_gi T.g_NO_STATION) pa_nil)))) pss_nil)
        (pss_one (ps_ret (ce_lst (pa_cons (pe_ix (c_ix (K := K) rfl) (ce_fld (K := K) rfl (cv 0) rfl) (cv 2) (fun _ _ => rfl)) (pa_cons (pe_ix (c_ix (K := K) rfl) (ce_fld (K := K) rfl (cv 0) rfl) (cv 2) (fun _ _ => rfl)) (pa_cons (pe_op (c_I0 op_add) (pe_ix (c_ix (K := K) rfl) (ce_fld (K := K) rfl (cv 0) rfl) (cv 2) (fun _ _ => rfl)) pe_int) (pa_cons (pe_op (c_I0 op_add) (pe_ix (c_ix (K := K) rfl) (ce_fld (K := K) rfl (cv 0) rfl) (cv 2) (fun _ _ => rfl)) pe_int) pa_nil))))))))), ?_⟩
    have e0 : n0 [i] = i.toNat := rfl
    simp only [e0, Kv364.Abs.does] at k
    have en : a.have_.length = a.n := rfl
    refine ci_ix hq (by decide) (by simp) ?_
    refine ci_stations T R ?_
    refine ci_ite (fun c => ?_) (fun c => ?_)
    · have c : (a.n : Int) ≤ i := c
      rw [if_pos (by omega)] at k
      exact ci_lst (xs := [.int (-2)]) (by decide) fun l hl => fin (xs := [-2]) k R Same.rfl hl rfl
    · have c : ¬ (a.n : Int) ≤ i := c
      rw [if_neg (by omega)] at k
      refine ci_had T R ?_
      refine ci_ix (xs := Haul.zlist a.have_) (IL.of R.had) h0 (by rw [ints_len]; omega) ?_
      refine ci_needed T R ?_
      refine ci_ix (xs := Haul.zlist a.need) (IL.of R.needed) h0 (by rw [ints_len, O.need]; omega) ?_
      refine ci_bor T R ?_
      refine ci_ix (xs := prs a.borrow) (IL.of R.bor) h0 (by rw [prs_len, O.borrow]; omega) ?_
      refine ci_spo T R ?_
      refine ci_ix (xs := prs a.spoil) (IL.of R.spo) h0 (by rw [prs_len, O.spoil]; omega) ?_
      refine ci_lst (by simp) fun l hl => fin (xs := [_, _, _, _]) k R Same.rfl hl ?_
      show [(Haul.zlist a.have_).getD i.toNat 0, (Haul.zlist a.need).getD i.toNat 0, (prs a.borrow).getD i.toNat 0 + 1, (prs a.spoil).getD i.toNat 0 + 1] = [((a.have_.getD i.toNat 0 : Nat) : Int), ((a.need.getD i.toNat 0 : Nat) : Int), (Kv364.old (a.borrow.getD i.toNat none)).ret, (Kv364.old (a.spoil.getD i.toNat none)).ret]
      rw [getD_ints, getD_ints, getD_prs (by rw [O.borrow]; omega), getD_prs (by rw [O.spoil]; omega), old_ret, old_ret]
abbrev s_sums : Stmt := top 82
theorem sc_sums : FnScope ["road", "numbers"] ["road", "numbers"] (defScope s_sums) := ⟨rfl, rfl, rfl, by decide +kernel, rfl, by decide +kernel, by decide +kernel⟩
theorem ok_sums {f : Addr} {fd : FuncData} {D : Addr} (F : Fun K "sums" "sums" s_sums f fd) (T : Txt K mg D) : FnOk P w K mg base CX0 5 f fd ["road", "numbers"] (spCall K D Haul.Ok (fun _ => True) fun a _ => a.does .sums) := by
  have sc := sc_sums
  refine F.ok sc (fun vs H Q E h => ?_) (fun cdv A outer s H vs Q E hr h => ?_)
  · obtain ⟨p, B, a, q, ns, rfl, _⟩ := h
    rfl
  · obtain ⟨p, B, a, q, ns, rfl, R, O, _, _, k⟩ := h
    refine ⟨_, (pss_one (ps_ret (ce_lst (pa_cons pe_int (pa_cons (pe_callB (call_sumC (K := K) rfl rfl) rfl T.n_sum boot_sum0 (pa_cons (ce_fld (K := K) rfl (cv 0) rfl) pa_nil)) (pa_cons (pe_callB (call_sumC (K := K) rfl rfl) rfl T.n_sum boot_sum0 (pa_cons (ce_fld (K := K) rfl (cv 0) rfl) pa_nil)) pa_nil)))))), ?_⟩
    simp only [Kv364.Abs.does] at k
    have eh : (Haul.zlist a.have_).sum = (a.have_.sum : Int) := Haul.sum_cast a.have_
    have ed : (Haul.zlist a.need).sum = (a.need.sum : Int) := Haul.sum_cast a.need
    refine ci_had T R ?_
    refine ci_sum (IL.of R.had) ?_
    refine ci_needed T R ?_
    refine ci_sum (IL.of R.needed) ?_
    refine ci_lst (by simp) fun l hl => fin (xs := [0, _, _]) k R Same.rfl hl ?_
    rw [eh, ed]
abbrev s_count_pits : Stmt := top 55
theorem sc_count_pits : FnScope ["pits"] ["pits"] (defScope s_count_pits) := ⟨rfl, rfl, rfl, by decide +kernel, rfl, by decide +kernel, by decide +kernel⟩
def sp_count_pits : Sp := fun vs H Q _ => ∃ (b : Addr) (os : List (Option Nat)), vs = [.ref b] ∧ H b = some (.lst ((prs os).map V.int)) ∧ Q (.int ((os.filter fun x => x.isSome).length : Nat)) H
theorem ok_count_pits {f : Addr} {fd : FuncData} {D : Addr} (F : Fun K "count_pits" "count_pits" s_count_pits f fd) (T : Txt K mg D) : FnOk P w K mg base CX0 1 f fd ["pits"] sp_count_pits := by
  have sc := sc_count_pits
  refine F.ok sc (fun vs H Q E h => ?_) (fun cdv A outer s H vs Q E hr h => ?_)
  · obtain ⟨b, os, rfl, _⟩ := h
    rfl
  · obtain ⟨b, os, rfl, hb, k⟩ := h
    refine ⟨_, (pss_one (ps_ret (pe_op (c_I0 op_sub) (pe_callB (call_lenC (K := K) rfl) rfl T.n_len boot_len0 (pa_cons (cv 0) pa_nil)) (ce_bm (K := K) rfl PySem.F.slot_list_count PySem.F.type_list_count (cmt_count (K := K) rfl) (cv 0) (pa_cons (pe_gi T.g_NO_PIT) pa_nil))))), ?_⟩
    refine ci_len (IL.of hb) ?_
    refine ci_bm hb ?_
    refine ci_count (IL.of hb) ?_
    have e := Haul.count_none os
    have e2 : (((os.filter fun x => x.isSome).length : Nat) : Int) = ((prs os).length : Int) - (((prs os).countP fun n => decide (n = -1) : Nat) : Int) := by
      rw [prs_len]
      unfold prs
      omega
    rw [e2] at k
    exact k
structure Calls15 (P : Program) (w : World) (K : PySem.W.Frag) (mg : Str → Option Value) (base : Heap) : Prop where
  count_pits : Cal P w K mg base "count_pits" 1 ["pits"] sp_count_pits
abbrev s_state : Stmt := top 83
theorem sc_state : FnScope ["road", "numbers"] ["road", "numbers"] (defScope s_state) := ⟨rfl, rfl, rfl, by decide +kernel, rfl, by decide +kernel, by decide +kernel⟩
theorem ok_state {f : Addr} {fd : FuncData} {D : Addr} (F : Fun K "state" "state" s_state f fd) (T : Txt K mg D) (C : Calls15 P w K mg base) : FnOk P w K mg base CX0 5 f fd ["road", "numbers"] (spCall K D Haul.Ok (fun _ => True) fun a _ => a.does .state) := by
  have sc := sc_state
  refine F.ok sc (fun vs H Q E h => ?_) (fun cdv A outer s H vs Q E hr h => ?_)
  · obtain ⟨p, B, a, q, ns, rfl, _⟩ := h
    rfl
  · obtain ⟨p, B, a, q, ns, rfl, R, O, _, _, k⟩ := h
    refine ⟨_, (pss_one (ps_ret (ce_lst (pa_cons pe_int (pa_cons (ce_fld (K := K) rfl (cv 0) rfl) (pa_cons (ce_fld (K := K) rfl (cv 0) rfl) (pa_cons (ce_cal C.count_pits hr (pa_cons (ce_fld (K := K) rfl (cv 0) rfl) pa_nil)) (pa_cons (ce_cal C.count_pits hr (pa_cons (ce_fld (K := K) rfl (cv 0) rfl) pa_nil)) pa_nil)))))))), ?_⟩
    simp only [Kv364.Abs.does] at k
    refine ci_stations T R ?_
    refine ci_step T R ?_
    refine ci_bor T R ?_
    refine ci_call ⟨_, _, rfl, R.bor, ?_⟩
    refine ci_spo T R ?_
    refine ci_call ⟨_, _, rfl, R.spo, ?_⟩
    exact ci_lst (by simp) fun l hl => fin (xs := [0, _, _, _, _]) k R Same.rfl hl rfl
end
end Hl
end
section
namespace Hl
open PySem PySem.Spec PyProof.Rows L2
section
variable {P : Program} {w : World} {K : PySem.W.Frag} {mg : Str → Option Value} {base : Heap}
abbrev s_row_fits : Stmt := top 50
theorem sc_row_fits : FnScope ["row", "size", "most"] ["row", "size", "most"] (defScope s_row_fits) := ⟨rfl, rfl, rfl, by decide +kernel, rfl, by decide +kernel, by decide +kernel⟩
def sp_row_fits (K : PySem.W.Frag) : Sp := fun vs H Q _ => ∃ (q : Addr) (ns : List Int) (n m : Int), vs = [.ref q, .int n, .int m] ∧ IL K H q ns ∧ 0 < n ∧ Q (.bl (decide ((ns.length : Int) = n ∧ ∀ x ∈ ns, x ≤ m))) H
theorem ok_row_fits {f : Addr} {fd : FuncData} {D : Addr} (F : Fun K "row_fits" "row_fits" s_row_fits f fd) (T : Txt K mg D) : FnOk P w K mg base CX0 1 f fd ["row", "size", "most"] (sp_row_fits K) := by
  have sc := sc_row_fits
  refine F.ok sc (fun vs H Q E h => ?_) (fun cdv A outer s H vs Q E hr h => ?_)
  · obtain ⟨q, ns, n, m, rfl, _⟩ := h
    rfl
  · obtain ⟨q, ns, n, m, rfl, hq, hn, k⟩ := h
    refine ⟨_, (pss_one (ps_ret (ce_and (pe_cmpR c_eq (pe_callB (call_lenC (K := K) rfl) rfl T.n_len boot_len0 (pa_cons (cv 0) pa_nil)) (cv 1) (nomark _)) (pe_one (pe_cmpR (c_I0 op_le) (pe_callB (call_maxLC (K := K) rfl rfl) rfl T.n_max boot_max0 (pa_cons (cv 0) pa_nil)) (cv 2) (nomark _)))))), ?_⟩
    refine ci_len hq ?_
    refine ci_ite (fun c => ?_) (fun c => ?_)
    · have c : (ns.length : Int) = n := c
      refine ci_maxL hq (by omega) fun M m1 m2 => ?_
      have e : decide ((ns.length : Int) = n ∧ ∀ x ∈ ns, x ≤ m) = decide (M ≤ m) := by
        rw [decide_eq_decide]
        exact ⟨fun h => h.2 M m1, fun h => ⟨c, fun x hx => Int.le_trans (m2 x hx) h⟩⟩
      rw [e] at k
      exact k
    · have c : ¬ (ns.length : Int) = n := c
      have e : decide ((ns.length : Int) = n ∧ ∀ x ∈ ns, x ≤ m) = false := by
        rw [decide_eq_false_iff_not]
        exact fun h => c h.1
      rw [e] at k
      exact k
theorem c_row_fits {q : Addr} {ns : List Int} {n m : Int} {H : Hp} {Q : VK} (hq : IL K H q ns) (hn : 0 < n) (h1 : (ns.length : Int) = n → (∀ x ∈ ns, x ≤ m) → Q (.bl true) H) (h2 : ¬ ((ns.length : Int) = n ∧ ∀ x ∈ ns, x ≤ m) → Q (.bl false) H) : rSp (sp_row_fits K) [.ref q, .int n, .int m] H Q := by
  refine ci_call ⟨q, ns, n, m, rfl, hq, hn, ?_⟩
  by_cases c : (ns.length : Int) = n ∧ ∀ x ∈ ns, x ≤ m
  · rw [decide_eq_true c]; exact h1 c.1 c.2
  · rw [decide_eq_false c]; exact h2 c
abbrev s_lowered : Stmt := top 51
theorem sc_lowered : FnScope ["row", "much", "x"] ["row", "much"] (defScope s_lowered) := ⟨rfl, rfl, rfl, by decide +kernel, rfl, by decide +kernel, by decide +kernel⟩
theorem ok_lowered {f : Addr} {fd : FuncData} {D : Addr} (F : Fun K "lowered" "lowered" s_lowered f fd) (T : Txt K mg D) : FnOk P w K mg base CX0 1 f fd ["row", "much"] (spLI K (fun xs m => xs.map fun x => x - m) (fun xs _ => xs.length ≤ 1000)) := by
  have sc := sc_lowered
  refine F.ok sc (fun vs H Q E h => ?_) (fun cdv A outer s H vs Q E hr h => ?_)
  · obtain ⟨a, xs, p, rfl, _⟩ := h
    rfl
  · obtain ⟨a, xs, m, rfl, h1, h2, k⟩ := h
    refine ⟨_, (pss_one (ps_ret (ce_LC rfl sc.nd (cpi_list (K := K) rfl (cv 0)) (own := [("x", 2)]) (blkOk_by (by show blkC ["row", "much", "x"] (defScope s_lowered) _ _ = true; decide +kernel)) (fun _ _ _ _ _ => (pg_name (i := 2) sc.nd rfl (Or.inl rfl))) (fun _ _ _ _ _ => pts_nil) (fun _ _ _ _ _ => (pe_op (c_I0 op_sub) (cv 2) (cv 1)))))), ?_⟩
    refine ci_ilist h1 ?_
    refine ci_lcLst (xs := xs) (fun i => (fun x => x - m) (xs.getD i 0)) h1 (by omega) (fun i H' R hi hS hR => ?_) (fun H' D hS hD hL => ?_)
    · exact ⟨rfl, hR _ Same.rfl⟩
    · rw [map_range_getD (fun x => x - m)] at hL
      exact k H' D hS hD hL
theorem c_lowered {a : Addr} {xs : List Int} {m : Int} {H : Hp} {Q : VK} (h1 : IL K H a xs) (h2 : xs.length ≤ 1000) (h : ∀ (H' : Hp) (l : Addr), Same H H' → H l = none → H' l = some (.lst ((xs.map fun x => x - m).map V.int)) → Q (.ref l) H') : rSp (spLI K (fun xs m => xs.map fun x => x - m) (fun xs _ => xs.length ≤ 1000)) [.ref a, .int m] H Q := ci_call ⟨a, xs, m, rfl, h1, h2, h⟩
structure Calls16 (P : Program) (w : World) (K : PySem.W.Frag) (mg : Str → Option Value) (base : Heap) (D : Addr) : Prop where
  onward_cost : Cal P w K mg base "onward_cost" 2 ["road", "i", "there", "onward"] (sp_onward_cost D)
def sp_way_cost (K : PySem.W.Frag) (D : Addr) : Sp := fun vs H Q _ => ∃ (p : Addr) (A : Ads) (a : Kv364.Abs) (wl : Addr) (ws : List Int), vs = [.ref p, .ref wl] ∧ RoadAt D H p A a ∧ Haul.Ok a ∧ IL K H wl ws ∧ ws.length = a.n ∧ Q (.int (Haul.wc a.step a.spots 0 ws)) H
abbrev s_way_cost : Stmt := top 8
theorem sc_way_cost : FnScope ["road", "way", "cost", "came", "i"] ["road", "way"] (defScope s_way_cost) := ⟨rfl, rfl, rfl, by decide +kernel, rfl, by decide +kernel, by decide +kernel⟩
theorem ok_way_cost {f : Addr} {fd : FuncData} {D : Addr} (F : Fun K "way_cost" "way_cost" s_way_cost f fd) (T : Txt K mg D) (M : Meths1 P w K mg base D) (C : Calls16 P w K mg base D) : FnOk P w K mg base CX0 3 f fd ["road", "way"] (sp_way_cost K D) := by
  have sc := sc_way_cost
  refine F.ok sc (fun vs H Q E h => ?_) (fun cdv A outer s H vs Q E hr h => ?_)
  · obtain ⟨p, B, a, wl, ws, rfl, _⟩ := h
    rfl
  · obtain ⟨p, B, a, wl, ws, rfl, R, O, hW, hl, k⟩ := h
    have n8 := O.n8
    refine ⟨_, (pss_cons (ps_set (i := 2) sc.nd rfl (Or.inl rfl) pe_int)
        (pss_cons (ps_set (i := 3) sc.nd rfl (Or.inl rfl) pe_int)
        (pss_cons (cs_for PassesOwn.never rfl (cpi_range1 rfl T.n_range (pa_cons (ce_fld (K := K) rfl (cv 0) rfl) pa_nil)) (pg_name (i := 4) sc.nd rfl (Or.inl rfl)) (pss_cons (cs_aug (i := 2) sc.nd rfl (Or.inl rfl) (ce_cal C.onward_cost hr (pa_cons (cv 0) (pa_cons (cv 4) (pa_cons (pe_op (c_I0 op_add) (cv 3) (ce_mcal M.surplus hr (cv 0) (pa_cons (cv 4) pa_nil))) (pa_cons (pe_ix (c_ix (K := K) rfl) (cv 1) (cv 4) (fun _ _ => rfl)) pa_nil))))) cip_add)
        (pss_one (ps_set (i := 3) sc.nd rfl (Or.inl rfl) (pe_ix (c_ix (K := K) rfl) (cv 1) (cv 4) (fun _ _ => rfl))))))
        (pss_one (ps_ret (cv 2)))))), ?_⟩
    refine ci_for ?_
    refine ci_stations T R ?_
    refine ci_rng1 (by omega) (by omega) ?_
    refine for_range (n := a.n) (fun i σ H' => H' = H ∧ ∃ (c came : Int) (v : Option V), σ = [some (.ref p), some (.ref wl), some (.int c), some (.int came), v] ∧ c + Haul.wc a.step (a.spots.drop i) came (ws.drop i) = Haul.wc a.step a.spots 0 ws) ⟨rfl, 0, 0, none, rfl, by rw [List.drop_zero, List.drop_zero, Int.zero_add]⟩ ?_ ?_
    · rintro i σ H' hi ⟨rfl, c, came, v, rfl, e⟩
      rw [Int.zero_add]
      refine ci_methD R.obj rfl ?_
      refine ci_call ⟨p, B, a, i, rfl, R, O, hi, ?_⟩
      refine ci_ix hW (by omega) (by omega) ?_
      refine ci_call ⟨p, B, a, i, _, _, rfl, R, O, hi, ?_⟩
      refine ci_ix hW (by omega) (by omega) ?_
      refine ⟨rfl, _, _, _, rfl, ?_⟩
      rw [spots_drop hi, Haul.drop_getD (xs := ws) (k := i) (by omega)] at e
      simp only [Haul.wc] at e
      rw [Int.toNat_natCast, Int.add_assoc]
      exact e
    · rintro σ H' ⟨rfl, c, came, v, rfl, e⟩
      rw [List.drop_eq_nil_of_le (by rw [Haul.spots_len]; exact Nat.le_refl _)] at e
      have e2 : c = Haul.wc a.step a.spots 0 ws := by
        rw [← e]
        simp [Haul.wc]
      rw [← e2] at k
      exact k
theorem c_way_cost {D : Addr} {H : Hp} {p wl : Addr} {A : Ads} {a : Kv364.Abs} {ws : List Int} {Q : VK} (R : RoadAt D H p A a) (O : Haul.Ok a) (h1 : IL K H wl ws) (h2 : ws.length = a.n) (h : Q (.int (Haul.wc a.step a.spots 0 ws)) H) : rSp (sp_way_cost K D) [.ref p, .ref wl] H Q := ci_call ⟨p, A, a, wl, ws, rfl, R, O, h1, h2, h⟩
structure Calls17 (P : Program) (w : World) (K : PySem.W.Frag) (mg : Str → Option Value) (base : Heap) (D : Addr) : Prop where
  row_fits : Cal P w K mg base "row_fits" 1 ["row", "size", "most"] (sp_row_fits K)
  lowered : Cal P w K mg base "lowered" 1 ["row", "much"] (spLI K (fun xs m => xs.map fun x => x - m) (fun xs _ => xs.length ≤ 1000))
  way_cost : Cal P w K mg base "way_cost" 3 ["road", "way"] (sp_way_cost K D)
def arow (ns : List Int) : Prop := ns.length ≤ 40 ∧ ∀ x ∈ ns, 0 ≤ x ∧ x ≤ 65535
abbrev s_try_way : Stmt := top 73
theorem sc_try_way : FnScope ["road", "row", "found"] ["road", "row"] (defScope s_try_way) := ⟨rfl, rfl, rfl, by decide +kernel, rfl, by decide +kernel, by decide +kernel⟩
theorem ok_try_way {f : Addr} {fd : FuncData} {D : Addr} (F : Fun K "try_way" "try_way" s_try_way f fd) (T : Txt K mg D) (C : Calls17 P w K mg base D) : FnOk P w K mg base CX0 5 f fd ["road", "row"] (spCall K D Haul.Ok arow fun a ns => a.does (.try_ (ns.map Int.toNat))) := by
  have sc := sc_try_way
  refine F.ok sc (fun vs H Q E h => ?_) (fun cdv A outer s H vs Q E hr h => ?_)
  · obtain ⟨p, B, a, q, ns, rfl, _⟩ := h
    rfl
  · obtain ⟨p, B, a, q, ns, rfl, R, O, hq, ⟨ha, hx⟩, k⟩ := h
    have n2 := O.n2
    have hx0 : ∀ x ∈ ns, 0 ≤ x := fun x h => (hx x h).1
    refine ⟨_, (pss_cons (cs_if (pt_not (ct_val (ce_cal C.row_fits hr (pa_cons (cv 1) (pa_cons (pe_op (c_I0 op_sub) (ce_fld (K := K) rfl (cv 0) rfl) pe_int) (pa_cons (pe_op c_mul pe_int (pe_gi T.g_MOST_HAULED)) pa_nil)))))) (pss_one (ps_ret (ce_lst (pa_cons (pe_gi T.g_OUT_OF_RANGE) pa_nil)))) pss_nil)
        (pss_cons (ps_set (i := 2) sc.nd rfl (Or.inl rfl) (ce_cal C.way_cost hr (pa_cons (cv 0) (pa_cons (pe_op c_cat (ce_cal C.lowered hr (pa_cons (cv 1) (pa_cons (pe_gi T.g_MOST_HAULED) pa_nil))) (ce_lst (pa_cons pe_int pa_nil))) pa_nil))))
        (pss_one (ps_ret (ce_lst (pa_cons (ce_ifExp (ct_cmpR (c_I0 op_lt) (cv 2) (pe_gi T.g_NEVER) (nomark _)) (cv 2) (pe_gi T.g_CANNOT_BE)) pa_nil)))))), ?_⟩
    simp only [Kv364.Abs.does, List.length_map] at k
    refine ci_stations T R ?_
    refine ci_mul (.inl ⟨by decide, by decide⟩) ?_
    refine c_row_fits hq (by omega) (fun c1 c2 => ?_) (fun c => ?_)
    · have c2 : ∀ x ∈ ns, x ≤ 144 := c2
      have nb : ¬ ((ns.map Int.toNat).any fun x => decide (2 * Kv364.MOST < x)) = true := fun h => (Haul.any_big hx0 (2 * Kv364.MOST)).mp h c2
      rw [if_neg (by rintro (h | h); omega; exact nb h), Haul.shift_eq hx0] at k
      refine c_lowered (m := 72) hq (by omega) fun H1 l s1 f1 hL => ?_
      refine ci_lst (by simp) fun z hz => ?_
      have s2 : Same H1 (upd H1 z (.lst [V.int 0])) := Same.rfl.new hz
      refine ci_cat (xs := ns.map fun x => x - 72) (ys := [0]) (s2 _ _ hL) upd_same (by simp; omega) fun wl hw => ?_
      have s3 := (s1.trans s2).new (o := .lst (((ns.map fun x => x - 72) ++ [0]).map V.int)) hw
      have hW : upd (upd H1 z (.lst [V.int 0])) wl (.lst (((ns.map fun x => x - 72) ++ [0]).map V.int)) wl = _ := upd_same
      refine c_way_cost (R.same s3) O (IL.of hW) (by simp; omega) ?_
      have tr := O.try (xs := ns.map fun x => x - 72) (by rw [List.length_map]; omega) (fun x h => by
        obtain ⟨y, hy, rfl⟩ := List.mem_map.mp h
        have := c2 y hy
        have := hx0 y hy
        omega)
      have k2 : ∀ l, upd (upd H1 z (.lst [V.int 0])) wl (.lst (((ns.map fun x => x - 72) ++ [0]).map V.int)) l = none → ∀ v : Int, v = (match a.costs a.spots 0 ((ns.map fun x => x - 72) ++ [0]) with
          | none => -33
          | some c => c) → Q (.ref l) (upd (upd (upd H1 z (.lst [V.int 0])) wl (.lst (((ns.map fun x => x - 72) ++ [0]).map V.int))) l (.lst [.int v])) := by
        intro l hl v hv
        have k : ∀ (H' : Hp) (l : Addr) (A' : Ads), RoadAt D H' p A' _ → _ := k
        change ∀ (H' : Hp) (l : Addr) (A' : Ads), RoadAt D H' p A' (match a.costs a.spots 0 ((ns.map fun x => x - 72) ++ [0]) with
          | none => (a, Kv364.say (-33))
          | some c => (a, Kv364.say c)).1 → Moved H H' p B A' → H l = none → H' l = some (.lst (((match a.costs a.spots 0 ((ns.map fun x => x - 72) ++ [0]) with
          | none => (a, Kv364.say (-33))
          | some c => (a, Kv364.say c)).2.ret :: (match a.costs a.spots 0 ((ns.map fun x => x - 72) ++ [0]) with
          | none => (a, Kv364.say (-33))
          | some c => (a, Kv364.say c)).2.nums).map V.int)) → Q (.ref l) H' at k
        cases ec : a.costs a.spots 0 ((ns.map fun x => x - 72) ++ [0]) with
        | none =>
          rw [ec] at k hv
          exact fin (xs := [v]) k R s3 hl (by rw [hv]; rfl)
        | some c =>
          rw [ec] at k hv
          exact fin (xs := [v]) k R s3 hl (by rw [hv]; rfl)
      refine ci_ite (fun c => ?_) (fun c => ?_)
      · have c : Haul.wc a.step a.spots 0 ((ns.map fun x => x - 72) ++ [0]) < Haul.NEVER := c
        rw [if_pos c] at tr
        exact ci_lst (by simp) fun l hl => k2 l hl _ tr
      · have c : ¬ Haul.wc a.step a.spots 0 ((ns.map fun x => x - 72) ++ [0]) < Haul.NEVER := c
        rw [if_neg c] at tr
        exact ci_lst (by simp) fun l hl => k2 l hl _ tr
    · have c : ¬ ((ns.length : Int) = (a.n : Int) - 1 ∧ ∀ x ∈ ns, x ≤ 144) := c
      rw [if_pos] at k
      · exact ci_lst (xs := [.int (-22)]) (by decide) fun l hl => fin (xs := [-22]) k R Same.rfl hl rfl
      · by_cases e : ns.length + 1 = a.n
        · exact .inr ((Haul.any_big hx0 (2 * Kv364.MOST)).mpr fun h => c ⟨by omega, h⟩)
        · exact .inl e
end
end Hl
end
section
namespace Hl
open PySem PySem.Spec PyProof.Rows L2
section
variable {P : Program} {w : World} {K : PySem.W.Frag} {mg : Str → Option Value} {base : Heap}
abbrev s_suits_pits : Stmt := top 24
theorem sc_suits_pits : FnScope ["road", "i", "price"] ["road", "i", "price"] (defScope s_suits_pits) := ⟨rfl, rfl, rfl, by decide +kernel, rfl, by decide +kernel, by decide +kernel⟩
def sp_suits (D : Addr) : Sp := fun vs H Q _ => ∃ (p : Addr) (A : Ads) (a : Kv364.Abs) (i : Nat) (u : Int), vs = [.ref p, .int i, .int u] ∧ RoadAt D H p A a ∧ Haul.Ok a ∧ i < a.n ∧ Q (.bl ((a.spot i).allows u)) H
theorem allows_eq (s : Kv364.Spot) (u : Int) : s.allows u = (decide (Haul.pr s.borrow = -1 ∨ u ≤ Haul.pr s.borrow) && decide (Haul.pr s.spoil = -1 ∨ -(Haul.pr s.spoil) ≤ u)) := by
  unfold Kv364.Spot.allows
  have e1 : (match s.borrow with
      | none => true
      | some p => decide (u ≤ (p : Int))) = decide (Haul.pr s.borrow = -1 ∨ u ≤ Haul.pr s.borrow) := by
    cases s.borrow with
    | none => rfl
    | some p =>
      show decide (u ≤ (p : Int)) = decide ((p : Int) = -1 ∨ u ≤ (p : Int))
      rw [decide_eq_decide]
      omega
  have e2 : (match s.spoil with
      | none => true
      | some p => decide (-(p : Int) ≤ u)) = decide (Haul.pr s.spoil = -1 ∨ -(Haul.pr s.spoil) ≤ u) := by
    cases s.spoil with
    | none => rfl
    | some p =>
      show decide (-(p : Int) ≤ u) = decide ((p : Int) = -1 ∨ -(p : Int) ≤ u)
      rw [decide_eq_decide]
      omega
  rw [← e1, ← e2]
  rfl
theorem ok_suits_pits {f : Addr} {fd : FuncData} {D : Addr} (F : Fun K "suits_pits" "suits_pits" s_suits_pits f fd) (T : Txt K mg D) : FnOk P w K mg base CX0 1 f fd ["road", "i", "price"] (sp_suits D) := by
  have sc := sc_suits_pits
  refine F.ok sc (fun vs H Q E h => ?_) (fun cdv A outer s H vs Q E hr h => ?_)
  · obtain ⟨p, B, a, i, u, rfl, _⟩ := h
    rfl
  · obtain ⟨p, B, a, i, u, rfl, R, O, hi, k⟩ := h
    refine ⟨_, (pss_cons (cs_if (PW.pt (cw_and (ct_cmpR c_ne (pe_ix (c_ix (K := K) rfl) (ce_fld (K := K) rfl (cv 0) rfl) (cv 1) (fun _ _ => rfl)) (pe_gi T.g_NO_PIT) (nomark _)) (pw_and1 (ct_cmpR (c_I0 op_gt) (cv 2) (pe_ix (c_ix (K := K) rfl) (ce_fld (K := K) rfl (cv 0) rfl) (cv 1) (fun _ _ => rfl)) (nomark _))))) (pss_one (ps_ret pe_bl)) pss_nil)
        (pss_one (ps_ret (ce_or (pe_cmpR c_eq (pe_ix (c_ix (K := K) rfl) (ce_fld (K := K) rfl (cv 0) rfl) (cv 1) (fun _ _ => rfl)) (pe_gi T.g_NO_PIT) (nomark _)) (pe_one (pe_cmpR (c_I0 op_ge) (cv 2) (pe_un c_neg (pe_ix (c_ix (K := K) rfl) (ce_fld (K := K) rfl (cv 0) rfl) (cv 1) (fun _ _ => rfl))) (nomark _))))))), ?_⟩
    have gb : (prs a.borrow).getD (i : Int).toNat 0 = Haul.pr (a.spot i).borrow := by rw [Int.toNat_natCast, getD_prs (by rw [O.borrow]; exact hi)]; rfl
    have gs : (prs a.spoil).getD (i : Int).toNat 0 = Haul.pr (a.spot i).spoil := by rw [Int.toNat_natCast, getD_prs (by rw [O.spoil]; exact hi)]; rfl
    rw [allows_eq] at k
    generalize Haul.pr (a.spot i).borrow = pb at gb k
    generalize Haul.pr (a.spot i).spoil = ps at gs k
    have second : ¬ (¬ pb = -1 ∧ pb < u) → rIte (decide (ps = -1)) (Q (.bl true) H) (Q (.bl (decide (-ps ≤ u))) H) := by
      intro c
      have e : decide (pb = -1 ∨ u ≤ pb) = true := decide_eq_true (by omega)
      rw [e, Bool.true_and] at k
      refine ci_ite (fun c2 => ?_) (fun c2 => ?_)
      · rw [decide_eq_true (.inl c2)] at k
        exact k
      · have e2 : decide (ps = -1 ∨ -ps ≤ u) = decide (-ps ≤ u) := by rw [decide_eq_decide]; omega
        rw [e2] at k
        exact k
    refine ci_bor T R ?_
    refine ci_ix (xs := prs a.borrow) (IL.of R.bor) (by omega) (by rw [prs_len, O.borrow]; omega) ?_
    rw [gb]
    refine ci_ite (fun c1 => ?_) (fun c1 => ?_)
    · have c1 : ¬ pb = -1 := c1
      refine ci_bor T R ?_
      refine ci_ix (xs := prs a.borrow) (IL.of R.bor) (by omega) (by rw [prs_len, O.borrow]; omega) ?_
      rw [gb]
      refine ci_ite (fun c2 => ?_) (fun c2 => ?_)
      · have c2 : pb < u := c2
        have e : decide (pb = -1 ∨ u ≤ pb) = false := decide_eq_false (by omega)
        rw [e, Bool.false_and] at k
        exact k
      · have c2 : ¬ pb < u := c2
        refine ci_spo T R ?_
        refine ci_ix (xs := prs a.spoil) (IL.of R.spo) (by omega) (by rw [prs_len, O.spoil]; omega) ?_
        rw [gs]
        have q := second (fun h => c2 h.2)
        refine ci_ite (fun c3 => ?_) (fun c3 => ?_)
        · rw [decide_eq_true c3] at q
          exact q
        · rw [decide_eq_false c3] at q
          refine ci_spo T R ?_
          refine ci_ix (xs := prs a.spoil) (IL.of R.spo) (by omega) (by rw [prs_len, O.spoil]; omega) ?_
          rw [gs]
          exact q
    · have c1 : ¬ ¬ pb = -1 := c1
      refine ci_spo T R ?_
      refine ci_ix (xs := prs a.spoil) (IL.of R.spo) (by omega) (by rw [prs_len, O.spoil]; omega) ?_
      rw [gs]
      have q := second (fun h => c1 h.1)
      refine ci_ite (fun c3 => ?_) (fun c3 => ?_)
      · rw [decide_eq_true c3] at q
        exact q
      · rw [decide_eq_false c3] at q
        refine ci_spo T R ?_
        refine ci_ix (xs := prs a.spoil) (IL.of R.spo) (by omega) (by rw [prs_len, O.spoil]; omega) ?_
        rw [gs]
        exact q
theorem c_suits {D : Addr} {H : Hp} {p : Addr} {A : Ads} {a : Kv364.Abs} {i : Nat} {u : Int} {Q : VK} (R : RoadAt D H p A a) (O : Haul.Ok a) (hi : i < a.n) (h1 : (a.spot i).allows u = true → Q (.bl true) H) (h2 : (a.spot i).allows u = false → Q (.bl false) H) : rSp (sp_suits D) [.ref p, .int i, .int u] H Q := by
  refine ci_call ⟨p, A, a, i, u, rfl, R, O, hi, ?_⟩
  cases e : (a.spot i).allows u with
  | true => exact h1 e
  | false => exact h2 e
abbrev s_said_at : Stmt := top 26
theorem sc_said_at : FnScope ["road", "i", "price"] ["road", "i", "price"] (defScope s_said_at) := ⟨rfl, rfl, rfl, by decide +kernel, rfl, by decide +kernel, by decide +kernel⟩
def sp_said_at (D : Addr) : Sp := fun vs H Q _ => ∃ (p : Addr) (A : Ads) (a : Kv364.Abs) (i : Nat) (u : Int), vs = [.ref p, .int i, .int u] ∧ RoadAt D H p A a ∧ Haul.Ok a ∧ i < a.n ∧ Q (.int (-((a.spot i).extra) * u)) H
theorem ok_said_at {f : Addr} {fd : FuncData} {D : Addr} (F : Fun K "said_at" "said_at" s_said_at f fd) (M : Meths1 P w K mg base D) : FnOk P w K mg base CX0 2 f fd ["road", "i", "price"] (sp_said_at D) := by
  have sc := sc_said_at
  refine F.ok sc (fun vs H Q E h => ?_) (fun cdv A outer s H vs Q E hr h => ?_)
  · obtain ⟨p, B, a, i, u, rfl, _⟩ := h
    rfl
  · obtain ⟨p, B, a, i, u, rfl, R, O, hi, k⟩ := h
    refine ⟨_, (pss_one (ps_ret (pe_op c_mul (pe_un c_neg (ce_mcal M.surplus hr (cv 0) (pa_cons (cv 1) pa_nil))) (cv 2)))), ?_⟩
    have so := O.spot i
    have e1 := so.e1
    have e2 := so.e2
    refine ci_methD R.obj rfl ?_
    refine ci_call ⟨p, B, a, i, rfl, R, O, hi, ?_⟩
    refine ci_mul (.inl ⟨by show -(2 ^ 64 : Int) < -((a.spot i).extra); omega, by show -((a.spot i).extra) < (2 ^ 64 : Int); omega⟩) ?_
    exact k
theorem c_said_at {D : Addr} {H : Hp} {p : Addr} {A : Ads} {a : Kv364.Abs} {i : Nat} {u : Int} {Q : VK} (R : RoadAt D H p A a) (O : Haul.Ok a) (hi : i < a.n) (h : Q (.int (-((a.spot i).extra) * u)) H) : rSp (sp_said_at D) [.ref p, .int i, .int u] H Q := ci_call ⟨p, A, a, i, u, rfl, R, O, hi, h⟩
structure Calls18 (P : Program) (w : World) (K : PySem.W.Frag) (mg : Str → Option Value) (base : Heap) (D : Addr) : Prop where
  suits_pits : Cal P w K mg base "suits_pits" 1 ["road", "i", "price"] (sp_suits D)
  said_at : Cal P w K mg base "said_at" 2 ["road", "i", "price"] (sp_said_at D)
abbrev s_what_it_says : Stmt := top 25
theorem sc_what_it_says : FnScope ["road", "row", "i", "price"] ["road", "row"] (defScope s_what_it_says) := ⟨rfl, rfl, rfl, by decide +kernel, rfl, by decide +kernel, by decide +kernel⟩
def sp_says (K : PySem.W.Frag) (D : Addr) : Sp := fun vs H Q _ => ∃ (p : Addr) (A : Ads) (a : Kv364.Abs) (rl : Addr) (us : List Int), vs = [.ref p, .ref rl] ∧ RoadAt D H p A a ∧ Haul.Ok a ∧ IL K H rl us ∧ us.length = a.n ∧ ∀ H', Same H H' → Q (.int (a.says us)) H'
theorem ok_what_it_says {f : Addr} {fd : FuncData} {D : Addr} (F : Fun K "what_it_says" "what_it_says" s_what_it_says f fd) (T : Txt K mg D) (C : Calls18 P w K mg base D) : FnOk P w K mg base CX0 3 f fd ["road", "row"] (sp_says K D) := by
  have sc := sc_what_it_says
  refine F.ok sc (fun vs H Q E h => ?_) (fun cdv A outer s H vs Q E hr h => ?_)
  · obtain ⟨p, B, a, rl, us, rfl, _⟩ := h
    rfl
  · obtain ⟨p, B, a, rl, us, rfl, R, O, hU, hl, k⟩ := h
    have n8 := O.n8
    refine ⟨_, (pss_one (ps_ret (pe_callB (call_sumC (K := K) rfl rfl) rfl T.n_sum boot_sum0 (pa_cons (ce_LC rfl sc.nd (cpi_enum (K := K) rfl rfl T.n_enumerate (pa_cons (cv 1) pa_nil)) (own := [("i", 2), ("price", 3)]) (blkOk_by (by show blkC ["road", "row", "i", "price"] (defScope s_what_it_says) _ _ = true; decide +kernel)) (fun _ _ _ _ _ => (cpg_tup (K := K) (n := 2) rfl rfl (cpgs_cons (pg_name (i := 2) sc.nd rfl (Or.inl rfl)) (cpgs_cons (pg_name (i := 3) sc.nd rfl (Or.inl rfl)) cpgs_nil)))) (fun _ _ _ _ _ => pts_nil) (fun _ _ _ _ _ => (ce_cal C.said_at hr (pa_cons (cv 0) (pa_cons (cv 2) (pa_cons (cv 3) pa_nil)))))) pa_nil)))), ?_⟩
    refine ci_ienum hU ?_
    refine ci_lcEnum (xs := us) (fun i => -((a.spot i).extra) * us.getD i 0) hU (by omega) (fun i H' t Rr hi hS hT hR => ?_) (fun H1 sl s1 f1 hL => ?_)
    · refine ci_gtup hT rfl ?_
      refine ⟨rfl, ?_⟩
      exact c_said_at (R.same hS) O (by omega) (hR _ Same.rfl)
    · refine ci_sum (IL.of hL) ?_
      rw [← Haul.says_eq hl]
      exact k H1 s1
theorem c_says {D : Addr} {H : Hp} {p rl : Addr} {A : Ads} {a : Kv364.Abs} {us : List Int} {Q : VK} (R : RoadAt D H p A a) (O : Haul.Ok a) (h1 : IL K H rl us) (h2 : us.length = a.n) (h : ∀ H', Same H H' → Q (.int (a.says us)) H') : rSp (sp_says K D) [.ref p, .ref rl] H Q := ci_call ⟨p, A, a, rl, us, rfl, R, O, h1, h2, h⟩
abbrev s_is_allowed : Stmt := top 23
theorem sc_is_allowed : FnScope ["road", "row", "i"] ["road", "row"] (defScope s_is_allowed) := ⟨rfl, rfl, rfl, by decide +kernel, rfl, by decide +kernel, by decide +kernel⟩
def sp_is_allowed (K : PySem.W.Frag) (D : Addr) : Sp := fun vs H Q _ => ∃ (p : Addr) (A : Ads) (a : Kv364.Abs) (rl : Addr) (us : List Int), vs = [.ref p, .ref rl] ∧ RoadAt D H p A a ∧ Haul.Ok a ∧ IL K H rl us ∧ us.length = a.n ∧ Q (.bl (a.allowed us)) H
theorem ok_is_allowed {f : Addr} {fd : FuncData} {D : Addr} (F : Fun K "is_allowed" "is_allowed" s_is_allowed f fd) (T : Txt K mg D) (C : Calls18 P w K mg base D) : FnOk P w K mg base CX0 3 f fd ["road", "row"] (sp_is_allowed K D) := by
  have sc := sc_is_allowed
  refine F.ok sc (fun vs H Q E h => ?_) (fun cdv A outer s H vs Q E hr h => ?_)
  · obtain ⟨p, B, a, rl, us, rfl, _⟩ := h
    rfl
  · obtain ⟨p, B, a, rl, us, rfl, R, O, hU, hl, k⟩ := h
    have n8 := O.n8
    have ai := Haul.allowed_iff (a := a) hl
    have no : ¬ a.allowed us = true → Q (.bl false) H := fun h => by
      rw [Bool.eq_false_iff.mpr h] at k
      exact k
    refine ⟨_, (pss_cons (cs_for PassesOwn.never rfl (cpi_range1 rfl T.n_range (pa_cons (ce_fld (K := K) rfl (cv 0) rfl) pa_nil)) (pg_name (i := 2) sc.nd rfl (Or.inl rfl)) (pss_cons (cs_if (pt_not (ct_val (ce_cal C.suits_pits hr (pa_cons (cv 0) (pa_cons (cv 2) (pa_cons (pe_ix (c_ix (K := K) rfl) (cv 1) (cv 2) (fun _ _ => rfl)) pa_nil)))))) (pss_one (ps_ret pe_bl)) pss_nil)
        (pss_one (cs_if (PW.pt (cw_and (ct_cmpR (c_I0 op_gt) (cv 2) pe_int (nomark _)) (pw_and1 (ct_cmpR (c_I0 op_gt) (pe_callB call_absC rfl T.n_abs boot_abs0 (pa_cons (pe_op (c_I0 op_sub) (pe_ix (c_ix (K := K) rfl) (cv 1) (cv 2) (fun _ _ => rfl)) (pe_ix (c_ix (K := K) rfl) (cv 1) (pe_op (c_I0 op_sub) (cv 2) pe_int) (fun _ _ => rfl))) pa_nil)) (ce_fld (K := K) rfl (cv 0) rfl) (nomark _))))) (pss_one (ps_ret pe_bl)) pss_nil))))
        (pss_one (ps_ret pe_bl))), ?_⟩
    refine ci_for ?_
    refine ci_stations T R ?_
    refine ci_rng1 (by omega) (by omega) ?_
    refine for_range (n := a.n) (fun i σ H' => H' = H ∧ ∃ v : Option V, σ = [some (.ref p), some (.ref rl), v] ∧ (∀ j, j < i → (a.spot j).allows (us.getD j 0) = true) ∧ ∀ j, j + 1 < i → Haul.near a.step (us.getD j 0) (us.getD (j + 1) 0) = true) ⟨rfl, none, rfl, fun j hj => by omega, fun j hj => by omega⟩ ?_ ?_
    · rintro i σ H' hi ⟨rfl, v, rfl, g1, g2⟩
      rw [Int.zero_add]
      refine ci_ix hU (by omega) (by omega) ?_
      rw [Int.toNat_natCast]
      refine c_suits R O hi (fun e => ?_) (fun e => ?_)
      · have g1' : ∀ j, j < i + 1 → (a.spot j).allows (us.getD j 0) = true := fun j hj => by
          by_cases ej : j = i
          · rw [ej]; exact e
          · exact g1 j (by omega)
        refine ci_ite (fun c1 => ?_) (fun c1 => ?_)
        · have c1 : (0 : Int) < (i : Int) := c1
          obtain ⟨m, rfl⟩ : ∃ m, i = m + 1 := ⟨i - 1, by omega⟩
          refine ci_ix hU (by omega) (by omega) ?_
          refine ci_ix hU (by omega) (by omega) ?_
          have em : (((m + 1 : Nat) : Int) - 1).toNat = m := by omega
          rw [Int.toNat_natCast, em]
          refine ci_step T R ?_
          refine ci_ite (fun c2 => ?_) (fun c2 => ?_)
          · refine no fun h => ?_
            exact (Haul.near_iff.mp ((ai.mp h).2 m (by omega))) c2
          · refine ⟨rfl, _, rfl, g1', fun j hj => ?_⟩
            by_cases ej : j = m
            · rw [ej]; exact Haul.near_iff.mpr c2
            · exact g2 j (by omega)
        · have c1 : ¬ (0 : Int) < (i : Int) := c1
          exact ⟨rfl, _, rfl, g1', fun j hj => by omega⟩
      · refine no fun h => ?_
        rw [(ai.mp h).1 i hi] at e
        cases e
    · rintro σ H' ⟨rfl, v, rfl, g1, g2⟩
      have e : a.allowed us = true := ai.mpr ⟨g1, g2⟩
      rw [e] at k
      exact k
theorem c_is_allowed {D : Addr} {H : Hp} {p rl : Addr} {A : Ads} {a : Kv364.Abs} {us : List Int} {Q : VK} (R : RoadAt D H p A a) (O : Haul.Ok a) (h1 : IL K H rl us) (h2 : us.length = a.n) (h3 : a.allowed us = true → Q (.bl true) H) (h4 : a.allowed us = false → Q (.bl false) H) : rSp (sp_is_allowed K D) [.ref p, .ref rl] H Q := by
  refine ci_call ⟨p, A, a, rl, us, rfl, R, O, h1, h2, ?_⟩
  cases e : a.allowed us with
  | true => exact h3 e
  | false => exact h4 e
structure Calls19 (P : Program) (w : World) (K : PySem.W.Frag) (mg : Str → Option Value) (base : Heap) (D : Addr) : Prop where
  row_fits : Cal P w K mg base "row_fits" 1 ["row", "size", "most"] (sp_row_fits K)
  lowered : Cal P w K mg base "lowered" 1 ["row", "much"] (spLI K (fun xs m => xs.map fun x => x - m) (fun xs _ => xs.length ≤ 1000))
  is_allowed : Cal P w K mg base "is_allowed" 3 ["road", "row"] (sp_is_allowed K D)
  what_it_says : Cal P w K mg base "what_it_says" 3 ["road", "row"] (sp_says K D)
abbrev s_bound : Stmt := top 75
theorem sc_bound : FnScope ["road", "row", "worths"] ["road", "row"] (defScope s_bound) := ⟨rfl, rfl, rfl, by decide +kernel, rfl, by decide +kernel, by decide +kernel⟩
theorem ok_bound {f : Addr} {fd : FuncData} {D : Addr} (F : Fun K "bound" "bound" s_bound f fd) (T : Txt K mg D) (C : Calls19 P w K mg base D) : FnOk P w K mg base CX0 5 f fd ["road", "row"] (spCall K D Haul.Ok arow fun a ns => a.does (.bound (ns.map Int.toNat))) := by
  have sc := sc_bound
  refine F.ok sc (fun vs H Q E h => ?_) (fun cdv A outer s H vs Q E hr h => ?_)
  · obtain ⟨p, B, a, q, ns, rfl, _⟩ := h
    rfl
  · obtain ⟨p, B, a, q, ns, rfl, R, O, hq, ⟨ha, hx⟩, k⟩ := h
    have n2 := O.n2
    have hx0 : ∀ x ∈ ns, 0 ≤ x := fun x h => (hx x h).1
    refine ⟨_, (pss_cons (cs_if (pt_not (ct_val (ce_cal C.row_fits hr (pa_cons (cv 1) (pa_cons (ce_fld (K := K) rfl (cv 0) rfl) (pa_cons (pe_op c_mul pe_int (pe_gi T.g_MOST_WORTH)) pa_nil)))))) (pss_one (ps_ret (ce_lst (pa_cons (pe_gi T.g_OUT_OF_RANGE) pa_nil)))) pss_nil)
        (pss_cons (ps_set (i := 2) sc.nd rfl (Or.inl rfl) (ce_cal C.lowered hr (pa_cons (cv 1) (pa_cons (pe_gi T.g_MOST_WORTH) pa_nil))))
        (pss_cons (cs_if (pt_not (ct_val (ce_cal C.is_allowed hr (pa_cons (cv 0) (pa_cons (cv 2) pa_nil))))) (pss_one (ps_ret (ce_lst (pa_cons (pe_gi T.g_CANNOT_BE) pa_nil)))) pss_nil)
        (pss_one (ps_ret (ce_lst (pa_cons pe_int (pa_cons (ce_cal C.what_it_says hr (pa_cons (cv 0) (pa_cons (cv 2) pa_nil))) pa_nil)))))))), ?_⟩
    simp only [Kv364.Abs.does, List.length_map] at k
    refine ci_stations T R ?_
    refine ci_mul (.inl ⟨by decide, by decide⟩) ?_
    refine c_row_fits hq (by omega) (fun c1 c2 => ?_) (fun c => ?_)
    · have c2 : ∀ x ∈ ns, x ≤ 260 := c2
      have nb : ¬ ((ns.map Int.toNat).any fun x => decide (2 * Kv364.FAR < x)) = true := fun h => (Haul.any_big hx0 (2 * Kv364.FAR)).mp h c2
      rw [if_neg (by rintro (h | h); omega; exact nb h), Haul.shift_eq hx0] at k
      have k : ∀ (H' : Hp) (l : Addr) (A' : Ads), RoadAt D H' p A' (if a.allowed (ns.map fun x => x - 130) = false then (a, Kv364.say (-33)) else (a, ⟨0, [a.says (ns.map fun x => x - 130)]⟩)).1 → Moved H H' p B A' → H l = none → H' l = some (.lst (((if a.allowed (ns.map fun x => x - 130) = false then (a, Kv364.say (-33)) else (a, (⟨0, [a.says (ns.map fun x => x - 130)]⟩ : Kv364.Ans))).2.ret :: (if a.allowed (ns.map fun x => x - 130) = false then (a, Kv364.say (-33)) else (a, (⟨0, [a.says (ns.map fun x => x - 130)]⟩ : Kv364.Ans))).2.nums).map V.int)) → Q (.ref l) H' := k
      refine c_lowered (m := 130) hq (by omega) fun H1 l s1 f1 hL => ?_
      refine c_is_allowed (R.same s1) O (IL.of hL) (by rw [List.length_map]; omega) (fun e => ?_) (fun e => ?_)
      · rw [if_neg (by rw [e]; simp)] at k
        refine c_says (R.same s1) O (IL.of hL) (by rw [List.length_map]; omega) fun H2 s2 => ?_
        exact ci_lst (by simp) fun l hl => fin (xs := [0, _]) k R (s1.trans s2) hl rfl
      · rw [if_pos e] at k
        exact ci_lst (xs := [.int (-33)]) (by decide) fun l hl => fin (xs := [-33]) k R s1 hl rfl
    · have c : ¬ ((ns.length : Int) = (a.n : Int) ∧ ∀ x ∈ ns, x ≤ 260) := c
      rw [if_pos] at k
      · exact ci_lst (xs := [.int (-22)]) (by decide) fun l hl => fin (xs := [-22]) k R Same.rfl hl rfl
      · by_cases e : ns.length = a.n
        · exact .inr ((Haul.any_big hx0 (2 * Kv364.FAR)).mpr fun h => c ⟨by omega, h⟩)
        · exact .inl e
end
end Hl
end
section
namespace Hl
open PySem PySem.Spec PyProof.Rows L2
section
variable {P : Program} {w : World} {K : PySem.W.Frag} {mg : Str → Option Value} {base : Heap}
abbrev s_said_or_barred : Stmt := top 29
theorem sc_said_or_barred : FnScope ["road", "i", "price"] ["road", "i", "price"] (defScope s_said_or_barred) := ⟨rfl, rfl, rfl, by decide +kernel, rfl, by decide +kernel, by decide +kernel⟩
def sp_sob (D : Addr) : Sp := fun vs H Q _ => ∃ (p : Addr) (A : Ads) (a : Kv364.Abs) (i : Nat) (u : Int), vs = [.ref p, .int i, .int u] ∧ RoadAt D H p A a ∧ Haul.Ok a ∧ i < a.n ∧ Q (.int (Haul.sob (a.spot i) u)) H
theorem ok_said_or_barred {f : Addr} {fd : FuncData} {D : Addr} (F : Fun K "said_or_barred" "said_or_barred" s_said_or_barred f fd) (T : Txt K mg D) (C : Calls18 P w K mg base D) : FnOk P w K mg base CX0 3 f fd ["road", "i", "price"] (sp_sob D) := by
  have sc := sc_said_or_barred
  refine F.ok sc (fun vs H Q E h => ?_) (fun cdv A outer s H vs Q E hr h => ?_)
  · obtain ⟨p, B, a, i, u, rfl, _⟩ := h
    rfl
  · obtain ⟨p, B, a, i, u, rfl, R, O, hi, k⟩ := h
    refine ⟨_, (pss_one (ps_ret (ce_ifExp (ct_val (ce_cal C.suits_pits hr (pa_cons (cv 0) (pa_cons (cv 1) (pa_cons (cv 2) pa_nil))))) (ce_cal C.said_at hr (pa_cons (cv 0) (pa_cons (cv 1) (pa_cons (cv 2) pa_nil)))) (pe_gi T.g_BARRED)))), ?_⟩
    unfold Haul.sob at k
    refine c_suits R O hi (fun e => ?_) (fun e => ?_)
    · rw [if_pos e] at k
      exact c_said_at R O hi k
    · rw [if_neg (by rw [e]; simp)] at k
      exact k
theorem c_sob {D : Addr} {H : Hp} {p : Addr} {A : Ads} {a : Kv364.Abs} {i : Nat} {u : Int} {Q : VK} (R : RoadAt D H p A a) (O : Haul.Ok a) (hi : i < a.n) (h : Q (.int (Haul.sob (a.spot i) u)) H) : rSp (sp_sob D) [.ref p, .int i, .int u] H Q := ci_call ⟨p, A, a, i, u, rfl, R, O, hi, h⟩
theorem cut_win {T : List Int} {k t : Nat} (hk : k < T.length) : cutV (T.map V.int) (some (if (0 : Int) > (k : Int) - (t : Int) then 0 else (k : Int) - (t : Int))) (some ((k : Int) + (t : Int) + 1)) = (Haul.win T k t).map V.int := by
  unfold cutV HT.sIx Haul.win
  have e : (if (0 : Int) > (k : Int) - (t : Int) then 0 else (k : Int) - (t : Int)) = ((k - t : Nat) : Int) := by split <;> omega
  simp only [e, List.length_map, List.map_take, List.map_drop]
  rw [if_neg (by omega), if_neg (by omega), show min (((k - t : Nat) : Int)).toNat T.length = k - t by omega, List.take_eq_take_iff, List.length_drop, List.length_map]
  omega
abbrev s_within_a_step : Stmt := top 30
theorem sc_within_a_step : FnScope ["table", "k", "step_cost"] ["table", "k", "step_cost"] (defScope s_within_a_step) := ⟨rfl, rfl, rfl, by decide +kernel, rfl, by decide +kernel, by decide +kernel⟩
def sp_within (K : PySem.W.Frag) : Sp := fun vs H Q _ => ∃ (tl : Addr) (T : List Int) (k t : Nat), vs = [.ref tl, .int k, .int t] ∧ IL K H tl T ∧ k < T.length ∧ ∀ l, H l = none → Q (.ref l) (upd H l (.lst ((Haul.win T k t).map V.int)))
theorem ok_within_a_step {f : Addr} {fd : FuncData} {D : Addr} (F : Fun K "within_a_step" "within_a_step" s_within_a_step f fd) (T : Txt K mg D) : FnOk P w K mg base CX0 1 f fd ["table", "k", "step_cost"] (sp_within K) := by
  have sc := sc_within_a_step
  refine F.ok sc (fun vs H Q E h => ?_) (fun cdv A outer s H vs Q E hr h => ?_)
  · obtain ⟨tl, T', k', t, rfl, _⟩ := h
    rfl
  · obtain ⟨tl, T', k', t, rfl, hT, hk, k⟩ := h
    refine ⟨_, (pss_one (ps_ret (pe_slice (c_sl (K := K) rfl) (cv 0) (cpo_some (pe_callB (call_maxC rfl) rfl T.n_max boot_max0 (pa_cons (pe_op (c_I0 op_sub) (cv 1) (cv 2)) (pa_cons pe_int pa_nil)))) (cpo_some (pe_op (c_I0 op_add) (pe_op (c_I0 op_add) (cv 1) (cv 2)) pe_int))))), ?_⟩
    refine ci_cut hT fun l hl => ?_
    rw [cut_win hk]
    exact k l hl
theorem c_within {tl : Addr} {T : List Int} {k t : Nat} {H : Hp} {Q : VK} (hT : IL K H tl T) (hk : k < T.length) (h : ∀ l, H l = none → Q (.ref l) (upd H l (.lst ((Haul.win T k t).map V.int)))) : rSp (sp_within K) [.ref tl, .int k, .int t] H Q := ci_call ⟨tl, T, k, t, rfl, hT, hk, h⟩
abbrev s_nearness : Stmt := top 32
theorem sc_nearness : FnScope ["price"] ["price"] (defScope s_nearness) := ⟨rfl, rfl, rfl, by decide +kernel, rfl, by decide +kernel, by decide +kernel⟩
def kap (n : Int) : List Int := [if n < 0 then -n else n, n]
def sp_near : Sp := fun vs H Q _ => ∃ n : Int, vs = [.int n] ∧ ∀ l, H l = none → Q (.ref l) (upd H l (.tup ((kap n).map V.int)))
theorem ok_nearness {f : Addr} {fd : FuncData} {D : Addr} (F : Fun K "nearness" "nearness" s_nearness f fd) (T : Txt K mg D) : FnOk P w K mg base CX0 1 f fd ["price"] sp_near := by
  have sc := sc_nearness
  refine F.ok sc (fun vs H Q E h => ?_) (fun cdv A outer s H vs Q E hr h => ?_)
  · obtain ⟨n, rfl, _⟩ := h
    rfl
  · obtain ⟨n, rfl, k⟩ := h
    refine ⟨_, (pss_one (ps_ret (ce_tup (pa_cons (pe_callB call_absC rfl T.n_abs boot_abs0 (pa_cons (cv 0) pa_nil)) (pa_cons (cv 0) pa_nil))))), ?_⟩
    exact ci_tup (by simp) k
theorem key_nearness : ∀ (n : Int) (H : Hp) (Q : VK), (∀ (H' : Hp) (l : Addr), Same H H' → H' l = some (.tup ((kap n).map V.int)) → Q (.ref l) H') → sp_near [.int n] H Q E0 := fun n H Q h => ⟨n, rfl, fun l hl => h _ l (Same.rfl.new hl) upd_same⟩
theorem lex_kap {u v : Int} (h : HT.lexLt (kap v) (kap u) = false) : u = v ∨ Haul.Nearer u v := by
  have eu : ∀ x : Int, (if x < 0 then -x else x) = (x.natAbs : Int) := fun x => by split <;> omega
  unfold kap at h
  rw [HT.lexLt_cons, HT.lexLt_cons, eu, eu] at h
  unfold Haul.Nearer
  by_cases c1 : (v.natAbs : Int) = (u.natAbs : Int)
  · rw [if_pos c1] at h
    by_cases c2 : v = u
    · exact .inl c2.symm
    · rw [if_neg c2] at h
      have := of_decide_eq_false h
      exact .inr (.inr ⟨by omega, by omega⟩)
  · rw [if_neg c1] at h
    have := of_decide_eq_false h
    exact .inr (.inl (by omega))
structure Calls20 (P : Program) (w : World) (K : PySem.W.Frag) (mg : Str → Option Value) (base : Heap) : Prop where
  nearness : Cal P w K mg base "nearness" 1 ["price"] sp_near
structure First (T : List Int) (u : Int) : Prop where
  lo : -130 ≤ u
  hi : u ≤ 130
  most : ∀ v, -130 ≤ v → v ≤ 130 → Haul.at_ T v ≤ Haul.at_ T u
  first : ∀ v, -130 ≤ v → v ≤ 130 → Haul.at_ T v = Haul.at_ T u → u = v ∨ Haul.Nearer u v
abbrev s_first_price : Stmt := top 31
theorem sc_first_price : FnScope ["table", "most", "k", "said"] ["table"] (defScope s_first_price) := ⟨rfl, rfl, rfl, by decide +kernel, rfl, by decide +kernel, by decide +kernel⟩
def sp_first (K : PySem.W.Frag) : Sp := fun vs H Q _ => ∃ (tl : Addr) (T : List Int), vs = [.ref tl] ∧ IL K H tl T ∧ T.length = 261 ∧ ∀ u H', Same H H' → First T u → Q (.int u) H'
theorem ok_first_price {f : Addr} {fd : FuncData} {D : Addr} (F : Fun K "first_price" "first_price" s_first_price f fd) (T : Txt K mg D) (C : Calls20 P w K mg base) : FnOk P w K mg base CX0 3 f fd ["table"] (sp_first K) := by
  have sc := sc_first_price
  refine F.ok sc (fun vs H Q E h => ?_) (fun cdv A outer s H vs Q E hr h => ?_)
  · obtain ⟨tl, T', rfl, _⟩ := h
    rfl
  · obtain ⟨tl, Tb, rfl, hT, hl, k⟩ := h
    refine ⟨_, (pss_cons (ps_set (i := 1) sc.nd rfl (Or.inr rfl) (pe_callB (call_maxLC (K := K) rfl rfl) rfl T.n_max boot_max0 (pa_cons (cv 0) pa_nil)))
        (pss_one (ps_ret (ce_minK C.nearness rfl key_nearness hr (ce_LC rfl sc.nd (cpi_enum (K := K) rfl rfl T.n_enumerate (pa_cons (cv 0) pa_nil)) (own := [("k", 2), ("said", 3)]) (blkOk_by (by show blkC ["table", "most", "k", "said"] (defScope s_first_price) _ _ = true; decide +kernel)) (fun _ _ _ _ _ => (cpg_tup (K := K) (n := 2) rfl rfl (cpgs_cons (pg_name (i := 2) sc.nd rfl (Or.inl rfl)) (cpgs_cons (pg_name (i := 3) sc.nd rfl (Or.inl rfl)) cpgs_nil)))) (fun _ _ _ _ _ => (pts_one (ct_cmpR c_eq (cv 3) (cv 1) (nomark _)))) (fun _ _ _ _ _ => (pe_op (c_I0 op_sub) (cv 2) (pe_gi T.g_MOST_WORTH)))) T.n_min)))), ?_⟩
    refine ci_maxL hT (by omega) fun M m1 m2 => ?_
    refine ci_ienum hT ?_
    refine ci_lcEnumF (xs := Tb) (fun i => decide (Tb.getD i 0 = M)) (fun (i : Nat) => (i : Int) - 130) hT (by omega) (fun i H' t Rr N hi hS hTt hR hN => ?_) (fun H1 cl s1 f1 hC => ?_)
    · refine ci_gtup hTt rfl ?_
      refine ⟨rfl, ?_⟩
      refine i_ite (fun c => ?_) (fun c => ?_)
      · exact hR (decide_eq_true c) _ Same.rfl
      · exact hN (decide_eq_false c) _ Same.rfl
    · have mem : ∀ v : Int, v ∈ ((List.range Tb.length).filter fun i => decide (Tb.getD i 0 = M)).map (fun (i : Nat) => (i : Int) - 130) ↔ -130 ≤ v ∧ v ≤ 130 ∧ Haul.at_ Tb v = M := fun v => by
        rw [List.mem_map]
        constructor
        · rintro ⟨i, hi, rfl⟩
          obtain ⟨h1, h2⟩ := List.mem_filter.mp hi
          have h1 := List.mem_range.mp h1
          have h2 := of_decide_eq_true h2
          refine ⟨by omega, by omega, ?_⟩
          unfold Haul.at_
          rw [show ((i : Int) - 130 + 130).toNat = i by omega]
          exact h2
        · rintro ⟨h1, h2, h3⟩
          refine ⟨(v + 130).toNat, List.mem_filter.mpr ⟨List.mem_range.mpr (by omega), decide_eq_true h3⟩, by omega⟩
      obtain ⟨q, hq, eq⟩ := mem_getD m1
      have c0 : (q : Int) - 130 ∈ ((List.range Tb.length).filter fun i => decide (Tb.getD i 0 = M)).map (fun (i : Nat) => (i : Int) - 130) := (mem _).mpr ⟨by omega, by omega, by unfold Haul.at_; rw [show ((q : Int) - 130 + 130).toNat = q by omega]; exact eq⟩
      refine ci_minK (IL.of hC) (List.length_pos_of_mem c0) fun u H2 u1 u2 s2 => ?_
      obtain ⟨g1, g2, g3⟩ := (mem u).mp u1
      refine k u H2 (s1.trans s2) ⟨g1, g2, fun v v1 v2 => ?_, fun v v1 v2 v3 => ?_⟩
      · rw [g3]
        refine m2 _ ?_
        unfold Haul.at_
        rw [List.getD_eq_getElem?_getD, List.getElem?_eq_getElem (by omega)]
        exact List.getElem_mem _
      · exact lex_kap (u2 v ((mem v).mpr ⟨v1, v2, by rw [v3, g3]⟩))
theorem c_first {tl : Addr} {T : List Int} {H : Hp} {Q : VK} (hT : IL K H tl T) (hl : T.length = 261) (h : ∀ u H', Same H H' → First T u → Q (.int u) H') : rSp (sp_first K) [.ref tl] H Q := ci_call ⟨tl, T, rfl, hT, hl, h⟩
structure Calls21 (P : Program) (w : World) (K : PySem.W.Frag) (mg : Str → Option Value) (base : Heap) (D : Addr) : Prop where
  within_a_step : Cal P w K mg base "within_a_step" 1 ["table", "k", "step_cost"] (sp_within K)
  said_or_barred : Cal P w K mg base "said_or_barred" 3 ["road", "i", "price"] (sp_sob D)
abbrev s_next_price : Stmt := top 33
theorem sc_next_price : FnScope ["table", "before", "step_cost", "k", "part"] ["table", "before", "step_cost"] (defScope s_next_price) := ⟨rfl, rfl, rfl, by decide +kernel, rfl, by decide +kernel, by decide +kernel⟩
def sp_next (K : PySem.W.Frag) : Sp := fun vs H Q _ => ∃ (tl : Addr) (T : List Int) (u : Int) (t : Nat), vs = [.ref tl, .int u, .int t] ∧ IL K H tl T ∧ T.length = 261 ∧ -130 ≤ u ∧ u ≤ 130 ∧ ∀ H', Same H H' → Q (.int (Haul.nxt t T u)) H'
theorem ok_next_price {f : Addr} {fd : FuncData} {D : Addr} (F : Fun K "next_price" "next_price" s_next_price f fd) (T : Txt K mg D) (C : Calls21 P w K mg base D) : FnOk P w K mg base CX0 2 f fd ["table", "before", "step_cost"] (sp_next K) := by
  have sc := sc_next_price
  refine F.ok sc (fun vs H Q E h => ?_) (fun cdv A outer s H vs Q E hr h => ?_)
  · obtain ⟨tl, T', u, t, rfl, _⟩ := h
    rfl
  · obtain ⟨tl, Tb, u, t, rfl, hT, hl, h1, h2, k⟩ := h
    refine ⟨_, (pss_cons (ps_set (i := 3) sc.nd rfl (Or.inl rfl) (pe_op (c_I0 op_add) (cv 1) (pe_gi T.g_MOST_WORTH)))
        (pss_cons (ps_set (i := 4) sc.nd rfl (Or.inl rfl) (ce_cal C.within_a_step hr (pa_cons (cv 0) (pa_cons (cv 3) (pa_cons (cv 2) pa_nil)))))
        (pss_one (ps_ret (pe_op (c_I0 op_add) (pe_callB (call_maxC rfl) rfl T.n_max boot_max0 (pa_cons (pe_op (c_I0 op_sub) (cv 1) (cv 2)) (pa_cons (pe_un c_neg (pe_gi T.g_MOST_WORTH)) pa_nil))) (ce_bm (K := K) rfl PySem.F.slot_list_index PySem.F.type_list_index (cmt_index (K := K) rfl) (cv 4) (pa_cons (pe_callB (call_maxLC (K := K) rfl rfl) rfl T.n_max boot_max0 (pa_cons (cv 4) pa_nil)) pa_nil))))))), ?_⟩
    have ek : u + 130 = (((u + 130).toNat : Nat) : Int) := by omega
    have wl := Haul.win_len (T := Tb) (k := (u + 130).toNat) (t := t) hl (by omega)
    refine rSp_at (show [V.ref tl, .int (u + 130), .int t] = [V.ref tl, .int (((u + 130).toNat : Nat) : Int), .int t] by rw [← ek]) ?_
    refine c_within (k := (u + 130).toNat) (t := t) hT (by omega) fun pl hp => ?_
    have s1 : Same H (upd H pl (.lst ((Haul.win Tb (u + 130).toNat t).map V.int))) := Same.rfl.new hp
    have hP : upd H pl (.lst ((Haul.win Tb (u + 130).toNat t).map V.int)) pl = _ := upd_same
    refine ci_bm hP ?_
    refine ci_maxL (IL.of hP) (by omega) fun M m1 m2 => ?_
    have eM := Haul.mx_eq m1 m2
    subst eM
    have hi := List.idxOf_lt_length_of_mem m1
    refine ci_index (j := (Haul.win Tb (u + 130).toNat t).idxOf (Haul.mx (Haul.win Tb (u + 130).toNat t))) (IL.of hP) hi ?_ (fun m hm => ?_) ?_
    · rw [List.getD_eq_getElem?_getD, List.getElem?_eq_getElem hi]
      exact List.getElem_idxOf hi
    · rw [List.getD_eq_getElem?_getD, List.getElem?_eq_getElem (by omega)]
      intro e
      have := List.not_of_lt_findIdx (p := (· == Haul.mx (Haul.win Tb (u + 130).toNat t))) (xs := Haul.win Tb (u + 130).toNat t) (i := m) hm
      have e : (Haul.win Tb (u + 130).toNat t)[m]'(by omega) = Haul.mx (Haul.win Tb (u + 130).toNat t) := e
      rw [e] at this
      simp at this
    · have q := k _ s1
      unfold Haul.nxt at q
      have e : max (u - (t : Int)) (-130) = (if (-130 : Int) > u - (t : Int) then -130 else u - (t : Int)) := by split <;> omega
      rw [e] at q
      exact q
theorem c_next {tl : Addr} {T : List Int} {u : Int} {t : Nat} {H : Hp} {Q : VK} (hT : IL K H tl T) (hl : T.length = 261) (h1 : -130 ≤ u) (h2 : u ≤ 130) (h : ∀ H', Same H H' → Q (.int (Haul.nxt t T u)) H') : rSp (sp_next K) [.ref tl, .int u, .int t] H Q := ci_call ⟨tl, T, u, t, rfl, hT, hl, h1, h2, h⟩
end
end Hl
end
section
namespace Hl
open PySem PySem.Spec PyProof.Rows L2
section
variable {P : Program} {w : World} {K : PySem.W.Frag} {mg : Str → Option Value} {base : Heap}
def ptab (a : Kv364.Abs) (i : Nat) : List Int := Haul.tabOf (a.spot i) (Haul.beh a.step (a.spots.drop (i + 1)))
def ptabs (a : Kv364.Abs) : List (List Int) := (List.range a.n).map (ptab a)
theorem ptabs_len (a : Kv364.Abs) : (ptabs a).length = a.n := by unfold ptabs; rw [List.length_map, List.length_range]
theorem ptabs_at {a : Kv364.Abs} {i : Nat} (h : i < a.n) : (ptabs a).getD i [] = ptab a i := by
  unfold ptabs
  rw [List.getD_eq_getElem?_getD, List.getElem?_map, List.getElem?_range h]
  rfl
def sp_most_said (D : Addr) : Sp := fun vs H Q _ => ∃ (p : Addr) (A : Ads) (a : Kv364.Abs), vs = [.ref p] ∧ RoadAt D H p A a ∧ Haul.Ok a ∧ ∀ (H' : Hp) (l : Addr) (as : List Addr), Same H H' → TabsAt H' l as (ptabs a) → Q (.ref l) H'
structure Made2 (a : Kv364.Abs) (H : Hp) (l : Addr) (as : List Addr) (b : Addr) (j : Nat) : Prop where
  lst : H l = some (.lst (as.map V.ref))
  len : as.length = j
  beh : H b = some (.lst ((Haul.beh a.step (a.spots.drop (a.n - j))).map V.int))
  at_ : ∀ q c, as[q]? = some c → c ≠ l ∧ H c = some (.lst ((ptab a (a.n - 1 - q)).map V.int))
abbrev s_most_said : Stmt := top 28
theorem sc_most_said : FnScope ["road", "tables", "behind", "i", "table", "k", "most"] ["road"] (defScope s_most_said) := ⟨rfl, rfl, rfl, by decide +kernel, rfl, by decide +kernel, by decide +kernel⟩
theorem ok_most_said {f : Addr} {fd : FuncData} {D : Addr} (F : Fun K "most_said" "most_said" s_most_said f fd) (T : Txt K mg D) (C : Calls21 P w K mg base D) : FnOk P w K mg base CX0 4 f fd ["road"] (sp_most_said D) := by
  have sc := sc_most_said
  refine F.ok sc (fun vs H Q E h => ?_) (fun cdv A outer s H vs Q E hr h => ?_)
  · obtain ⟨p, B, a, rfl, _⟩ := h
    rfl
  · obtain ⟨p, B, a, rfl, R, O, k⟩ := h
    have n2 := O.n2
    have n8 := O.n8
    have t10 := O.t10
    refine ⟨_, (pss_cons (ps_set (i := 1) sc.nd rfl (Or.inl rfl) (ce_lst pa_nil))
        (pss_cons (ps_set (i := 2) sc.nd rfl (Or.inl rfl) (pe_op c_rep (ce_lst (pa_cons pe_int pa_nil)) (pe_op (c_I0 op_add) (pe_op c_mul pe_int (pe_gi T.g_MOST_WORTH)) pe_int)))
        (pss_cons (cs_for PassesOwn.never rfl (cpi_range3 rfl T.n_range (pa_cons (pe_op (c_I0 op_sub) (ce_fld (K := K) rfl (cv 0) rfl) pe_int) (pa_cons (pe_un c_neg pe_int) (pa_cons (pe_un c_neg pe_int) pa_nil)))) (pg_name (i := 3) sc.nd rfl (Or.inr rfl)) (pss_cons (ps_set (i := 4) sc.nd rfl (Or.inr rfl) (ce_LC rfl sc.nd (cpi_enum (K := K) rfl rfl T.n_enumerate (pa_cons (cv 2) pa_nil)) (own := [("k", 5), ("most", 6)]) (blkOk_by (by show blkC ["road", "tables", "behind", "i", "table", "k", "most"] (defScope s_most_said) _ _ = true; decide +kernel)) (fun _ _ _ _ _ => (cpg_tup (K := K) (n := 2) rfl rfl (cpgs_cons (pg_name (i := 5) sc.nd rfl (Or.inl rfl)) (cpgs_cons (pg_name (i := 6) sc.nd rfl (Or.inl rfl)) cpgs_nil)))) (fun _ _ _ _ _ => pts_nil) (fun _ _ _ _ _ => (pe_op (c_I0 op_add) (ce_cal C.said_or_barred hr (pa_cons (cv 0) (pa_cons (cv 3) (pa_cons (pe_op (c_I0 op_sub) (cv 5) (pe_gi T.g_MOST_WORTH)) pa_nil)))) (cv 6)))))
        (pss_cons (ps_expr (ce_bm (K := K) rfl PySem.F.slot_list_append PySem.F.type_list_append cmt_append (cv 1) (pa_cons (cv 4) pa_nil)))
        (pss_one (cs_setLC rfl sc.nd (i := 2) rfl rfl (sw_true rfl rfl rfl rfl) (cpi_range1 rfl T.n_range (pa_cons (pe_callB (call_lenC (K := K) rfl) rfl T.n_len boot_len0 (pa_cons (cv 4) pa_nil)) pa_nil)) (own := [("k", 5)]) (blkOk_by (by show blkC ["road", "tables", "behind", "i", "table", "k", "most"] (defScope s_most_said) _ _ = true; decide +kernel)) (fun _ _ _ _ _ => (pg_name (i := 5) sc.nd rfl (Or.inl rfl))) (fun _ _ _ _ _ => pts_nil) (fun _ _ _ _ _ => (pe_callB (call_maxLC (K := K) rfl rfl) rfl T.n_max boot_max0 (pa_cons (ce_cal C.within_a_step hr (pa_cons (cv 4) (pa_cons (cv 5) (pa_cons (ce_fld (K := K) rfl (cv 0) rfl) pa_nil)))) pa_nil))))))))
        (pss_cons (ps_expr (ce_bm0 (K := K) rfl PySem.F.slot_list_reverse PySem.F.type_list_reverse cmt_reverse (cv 1)))
        (pss_one (ps_ret (cv 1))))))), ?_⟩
    refine ci_lst (by decide) fun l hl => ?_
    refine ci_lst (by decide) fun p0 hp0 => ?_
    refine ci_mul (.inl ⟨by decide, by decide⟩) ?_
    refine ci_rep upd_same (by decide) (by decide) fun p1 hp1 => ?_
    have s1 : Same H (upd (upd (upd H l (.lst [])) p0 (.lst [V.int 0])) p1 (.lst (List.replicate 261 (V.int 0)))) := ((Same.rfl.new hl).new hp0).new hp1
    have hl1 : upd (upd (upd H l (.lst [])) p0 (.lst [V.int 0])) p1 (.lst (List.replicate 261 (V.int 0))) l = some (.lst []) := ((Same.rfl.new hp0).new hp1) _ _ upd_same
    refine ci_for ?_
    refine ci_stations T (R.same s1) ?_
    refine ci_rng3 (n := a.n) (rg_down n8) ?_
    refine for_rangeC (fun j σ H' => ∃ (b : Addr) (as : List Addr) (v3 v4 : Option V), σ = [some (.ref p), some (.ref l), some (.ref b), v3, v4, none, none] ∧ Same H H' ∧ Made2 a H' l as b j) ⟨p1, [], none, none, rfl, s1, hl1, rfl, ?_, fun q c hc => by simp at hc⟩ ?_ ?_
    · rw [Nat.sub_zero, List.drop_eq_nil_of_le (by rw [Haul.spots_len]; exact Nat.le_refl _)]
      show upd _ p1 (.lst (List.replicate 261 (V.int 0))) p1 = _
      rw [upd_same, Haul.beh, List.map_replicate]
    · rintro j σ H' hj ⟨b, as, v3, v4, rfl, s2, Md⟩
      obtain ⟨i, ei⟩ : ∃ i : Nat, i = a.n - 1 - j := ⟨_, rfl⟩
      have hi : i < a.n := by omega
      have e : ((a.n : Int) - 1 + (j : Nat) * (-1)) = (i : Int) := by omega
      rw [e]
      have hb := Md.beh
      rw [show a.n - j = i + 1 by omega] at hb
      have hz := Haul.beh_len a.step (a.spots.drop (i + 1))
      refine ci_ienum (IL.of hb) ?_
      refine ci_lcEnum (xs := Haul.beh a.step (a.spots.drop (i + 1))) (fun (k : Nat) => Haul.sob (a.spot i) ((k : Int) - 130) + (Haul.beh a.step (a.spots.drop (i + 1))).getD k 0) (IL.of hb) (by omega) (fun k H2 tt Rr hk hS hT hR => ?_) (fun H2 tl s3 f3 hL => ?_)
      · refine ci_gtup hT rfl ?_
        refine ⟨rfl, ?_⟩
        exact c_sob (R.same (s2.trans hS)) O hi (hR _ Same.rfl)
      · have eT : (List.range (Haul.beh a.step (a.spots.drop (i + 1))).length).map (fun (k : Nat) => Haul.sob (a.spot i) ((k : Int) - 130) + (Haul.beh a.step (a.spots.drop (i + 1))).getD k 0) = ptab a i := by
          rw [hz]
          rfl
        rw [eT] at hL
        have ntl : tl ≠ l := (ne_of_none Md.lst f3).symm
        refine ci_bm (s3 _ _ Md.lst) ?_
        refine ci_app (s3 _ _ Md.lst) (by rw [List.length_map, Md.len]; omega) ?_
        have hL2 : upd H2 l (.lst (as.map V.ref ++ [V.ref tl])) tl = some (.lst ((ptab a i).map V.int)) := by rw [upd_ne ntl]; exact hL
        have s4 : Same H (upd H2 l (.lst (as.map V.ref ++ [V.ref tl]))) := (s2.trans s3).re hl
        have tlen : (ptab a i).length = 261 := Haul.tabOf_len _ _
        refine ci_len (IL.of hL2) ?_
        rw [tlen]
        refine ci_rng1 (by decide) (by decide) ?_
        refine ci_lcRng (n := 261) (fun k => Haul.mx (Haul.win (ptab a i) k a.step)) (by decide) (fun k H3 Rr hk hS hR => ?_) (fun H3 nb s5 f5 hB => ?_)
        · refine ⟨rfl, ?_⟩
          refine ci_step T (R.same (s4.trans hS)) ?_
          refine c_within (k := k) (t := a.step) (IL.of (hS _ _ hL2)) (by rw [tlen]; exact hk) fun wl hw => ?_
          have wz := Haul.win_len (T := ptab a i) (k := k) (t := a.step) tlen hk
          refine ci_maxL (IL.of upd_same) (by omega) fun M m1 m2 => ?_
          have eM := Haul.mx_eq m1 m2
          subst eM
          exact hR _ (Same.rfl.new hw)
        · have l3 : H3 l = some (.lst (as.map V.ref ++ [V.ref tl])) := s5 _ _ upd_same
          refine ⟨nb, as ++ [tl], _, _, rfl, s4.trans s5, ⟨by rw [l3, List.map_append]; rfl, by rw [List.length_append, Md.len]; rfl, ?_, fun q c hc => ?_⟩⟩
          · rw [hB, show a.n - (j + 1) = i by omega, spots_drop hi]
            rfl
          · by_cases hq : q < as.length
            · rw [List.getElem?_append_left hq] at hc
              obtain ⟨g1, g2⟩ := Md.at_ q c hc
              refine ⟨g1, s5 _ _ ?_⟩
              rw [upd_ne g1]
              exact s3 _ _ g2
            · have hq2 := (List.getElem?_eq_some_iff.mp hc).1
              rw [List.length_append, List.length_singleton] at hq2
              have eq : q = as.length := by omega
              rw [eq, List.getElem?_append_right (Nat.le_refl _), Nat.sub_self] at hc
              have ec : tl = c := Option.some.inj hc
              subst ec
              refine ⟨ntl, s5 _ _ ?_⟩
              rw [eq, Md.len, show a.n - 1 - j = i by omega]
              exact hL2
    · rintro σ H' ⟨b, as, v3, v4, rfl, s2, Md⟩
      refine ci_bm Md.lst ?_
      refine ci_rev Md.lst ?_
      refine k _ l as.reverse (s2.re hl) ⟨by rw [upd_same, List.map_reverse], by rw [List.length_reverse, Md.len, ptabs_len], fun q c hc => ?_⟩
      have hlen := Md.len
      have hq := (List.getElem?_eq_some_iff.mp hc).1
      rw [List.length_reverse] at hq
      rw [List.getElem?_reverse hq] at hc
      obtain ⟨g1, g2⟩ := Md.at_ _ c hc
      rw [upd_ne g1, g2, ptabs_at (by omega), show a.n - 1 - (as.length - 1 - q) = q by omega]
theorem c_most_said {D : Addr} {H : Hp} {p : Addr} {A : Ads} {a : Kv364.Abs} {Q : VK} (R : RoadAt D H p A a) (O : Haul.Ok a) (h : ∀ (H' : Hp) (l : Addr) (as : List Addr), Same H H' → TabsAt H' l as (ptabs a) → Q (.ref l) H') : rSp (sp_most_said D) [.ref p] H Q := ci_call ⟨p, A, a, rfl, R, O, h⟩
theorem TabsAt.getP {H : Hp} {l : Addr} {as : List Addr} {a : Kv364.Abs} (TA : TabsAt H l as (ptabs a)) {i : Nat} (h : i < a.n) : ∃ b, as[i]? = some b ∧ H b = some (.lst ((ptab a i).map V.int)) := by
  have hl := TA.len
  rw [ptabs_len] at hl
  refine ⟨as[i]'(by omega), List.getElem?_eq_getElem (by omega), ?_⟩
  have := TA.at_ i _ (List.getElem?_eq_getElem (by omega))
  rw [ptabs_at h] at this
  exact this
structure Calls22 (P : Program) (w : World) (K : PySem.W.Frag) (mg : Str → Option Value) (base : Heap) (D : Addr) : Prop where
  most_said : Cal P w K mg base "most_said" 4 ["road"] (sp_most_said D)
  first_price : Cal P w K mg base "first_price" 3 ["table"] (sp_first K)
  next_price : Cal P w K mg base "next_price" 2 ["table", "before", "step_cost"] (sp_next K)
abbrev s_row_told : Stmt := top 27
theorem sc_row_told : FnScope ["road", "tables", "row", "i"] ["road"] (defScope s_row_told) := ⟨rfl, rfl, rfl, by decide +kernel, rfl, by decide +kernel, by decide +kernel⟩
def sp_row_told (D : Addr) : Sp := fun vs H Q _ => ∃ (p : Addr) (A : Ads) (a : Kv364.Abs) (b : Kv364.Said), vs = [.ref p] ∧ RoadAt D H p A a ∧ Haul.Ok a ∧ a.prices = some b ∧ ∀ (H' : Hp) (l : Addr), Same H H' → H l = none → H' l = some (.lst (b.prices.map V.int)) → Q (.ref l) H'
theorem ok_row_told {f : Addr} {fd : FuncData} {D : Addr} (F : Fun K "row_told" "row_told" s_row_told f fd) (T : Txt K mg D) (C : Calls22 P w K mg base D) : FnOk P w K mg base CX0 5 f fd ["road"] (sp_row_told D) := by
  have sc := sc_row_told
  refine F.ok sc (fun vs H Q E h => ?_) (fun cdv A outer s H vs Q E hr h => ?_)
  · obtain ⟨p, B, a, b, rfl, _⟩ := h
    rfl
  · obtain ⟨p, B, a, b, rfl, R, O, hb, k⟩ := h
    have n2 := O.n2
    have n8 := O.n8
    refine ⟨_, (pss_cons (ps_set (i := 1) sc.nd rfl (Or.inl rfl) (ce_cal C.most_said hr (pa_cons (cv 0) pa_nil)))
        (pss_cons (ps_set (i := 2) sc.nd rfl (Or.inl rfl) (ce_lst (pa_cons (ce_cal C.first_price hr (pa_cons (pe_ix (c_ix (K := K) rfl) (cv 1) pe_int (fun _ _ => rfl)) pa_nil)) pa_nil)))
        (pss_cons (cs_for PassesOwn.never rfl (cpi_range2 rfl T.n_range (pa_cons pe_int (pa_cons (ce_fld (K := K) rfl (cv 0) rfl) pa_nil))) (pg_name (i := 3) sc.nd rfl (Or.inl rfl)) (pss_one (ps_expr (ce_bm (K := K) rfl PySem.F.slot_list_append PySem.F.type_list_append cmt_append (cv 2) (pa_cons (ce_cal C.next_price hr (pa_cons (pe_ix (c_ix (K := K) rfl) (cv 1) (cv 3) (fun _ _ => rfl)) (pa_cons (pe_ix (c_ix (K := K) rfl) (cv 2) (pe_op (c_I0 op_sub) (cv 3) pe_int) (fun _ _ => rfl)) (pa_cons (ce_fld (K := K) rfl (cv 0) rfl) pa_nil)))) pa_nil)))))
        (pss_one (ps_ret (cv 2)))))), ?_⟩
    refine c_most_said R O fun H1 l as s1 TA => ?_
    obtain ⟨c0, hc0, hT0⟩ := TA.getP (i := 0) (by omega)
    refine ci_ixR TA.lst (by decide) hc0 ?_
    refine c_first (IL.of hT0) (Haul.tabOf_len _ _) fun u H2 s2 Fi => ?_
    have hs0 : a.spots = a.spot 0 :: a.spots.drop 1 := by
      have := spots_drop (a := a) (i := 0) (by omega)
      rw [List.drop_zero] at this
      exact this
    have told : b.prices = u :: Haul.chain a.step (a.spots.drop 1) u := by
      obtain ⟨b', e1, e2⟩ := Haul.prices_told (a := a) (by rw [hs0]; simp)
      rw [hb] at e1
      cases e1
      have := Haul.told_of (t := a.step) (s := a.spot 0) (l := a.spots.drop 1) (u := u) (fun x hx => O.spots x (by rw [hs0]; exact hx)) (by rw [← hs0, Haul.spots_len]; exact n8) Fi.lo Fi.hi Fi.most Fi.first
      rw [hs0] at e2
      exact (e2.unique this).2
    refine ci_lst (by simp) fun rl hr => ?_
    have fr : H rl = none := (s1.trans s2).free hr
    refine ci_for ?_
    refine ci_stations T (R.same ((s1.trans s2).new hr)) ?_
    refine ci_rng2 ⟨by omega, by omega, by omega, by omega⟩ ?_
    refine for_range (n := ((a.n : Int) - 1).toNat) (fun i σ H' => ∃ (dn : List Int) (v : Int) (x : Option V), σ = [some (.ref p), some (.ref l), some (.ref rl), x] ∧ Same H2 H' ∧ H' rl = some (.lst (dn.map V.int)) ∧ dn.length = i + 1 ∧ dn.getD i 0 = v ∧ -130 ≤ v ∧ v ≤ 130 ∧ dn ++ Haul.chain a.step (a.spots.drop (i + 1)) v = b.prices)
      ⟨[u], u, none, rfl, Same.rfl.new hr, upd_same, rfl, rfl, Fi.lo, Fi.hi, by rw [told]; rfl⟩ ?_ ?_
    · rintro i σ H' hi ⟨dn, v, x, rfl, s3, hR, hdl, hv, v1, v2, hE⟩
      have e : ((1 : Int) + (i : Nat)) = ((i + 1 : Nat) : Int) := by omega
      rw [e]
      have hi1 : i + 1 < a.n := by omega
      obtain ⟨c1, hc1, hT1⟩ := (TA.same (s2.trans s3)).getP hi1
      refine ci_bm hR ?_
      refine ci_ixR ((TA.same (s2.trans s3)).lst) (by omega) (by rw [Int.toNat_natCast]; exact hc1) ?_
      refine ci_ix (IL.of hR) (by omega) (by omega) ?_
      rw [show (((i + 1 : Nat) : Int) - 1).toNat = i by omega, hv]
      refine ci_step T (R.same ((s1.trans s2).trans s3)) ?_
      refine c_next (t := a.step) (IL.of hT1) (Haul.tabOf_len _ _) v1 v2 fun H4 s4 => ?_
      refine ci_app (s4 _ _ hR) (by rw [List.length_map, hdl]; omega) ?_
      have N := Haul.nxt_ok (t := a.step) (T := ptab a (i + 1)) (u := v) (Haul.tabOf_len _ _) v1 v2
      refine ⟨dn ++ [Haul.nxt a.step (ptab a (i + 1)) v], Haul.nxt a.step (ptab a (i + 1)) v, _, rfl, (s3.trans s4).re hr, by rw [upd_same, List.map_append]; rfl, by rw [List.length_append, hdl]; rfl, ?_, N.lo, N.hi, ?_⟩
      · rw [List.getD_eq_getElem?_getD, List.getElem?_append_right (by omega), hdl, Nat.sub_self]
        rfl
      · rw [← hE, spots_drop hi1, List.append_assoc]
        rfl
    · rintro σ H' ⟨dn, v, x, rfl, s3, hR, hdl, hv, v1, v2, hE⟩
      rw [show ((a.n : Int) - 1).toNat + 1 = a.n by omega, List.drop_eq_nil_of_le (by rw [Haul.spots_len]; exact Nat.le_refl _)] at hE
      simp only [Haul.chain, List.append_nil] at hE
      refine k H' rl ((s1.trans s2).trans s3) fr ?_
      rw [hR, hE]
theorem c_row_told {D : Addr} {H : Hp} {p : Addr} {A : Ads} {a : Kv364.Abs} {b : Kv364.Said} {Q : VK} (R : RoadAt D H p A a) (O : Haul.Ok a) (hb : a.prices = some b) (h : ∀ (H' : Hp) (l : Addr), Same H H' → H l = none → H' l = some (.lst (b.prices.map V.int)) → Q (.ref l) H') : rSp (sp_row_told D) [.ref p] H Q := ci_call ⟨p, A, a, b, rfl, R, O, hb, h⟩
structure Calls23 (P : Program) (w : World) (K : PySem.W.Frag) (mg : Str → Option Value) (base : Heap) (D : Addr) : Prop where
  row_told : Cal P w K mg base "row_told" 5 ["road"] (sp_row_told D)
theorem row_len {t : Nat} : ∀ {l : List Kv364.Spot} {us : List Int} {c : Int}, Haul.Row t l us c → us.length = l.length
  | [], us, c, h => by rw [h.1]; rfl
  | s :: l, us, c, ⟨u, r, d, e, _, _, _, _, h, _⟩ => by rw [e, List.length_cons, List.length_cons, row_len h]
abbrev s_prices : Stmt := top 74
theorem sc_prices : FnScope ["road", "numbers"] ["road", "numbers"] (defScope s_prices) := ⟨rfl, rfl, rfl, by decide +kernel, rfl, by decide +kernel, by decide +kernel⟩
theorem ok_prices {f : Addr} {fd : FuncData} {D : Addr} (F : Fun K "prices" "prices" s_prices f fd) (T : Txt K mg D) (M : Meths3 P w K mg base D) (C : Calls23 P w K mg base D) : FnOk P w K mg base CX0 6 f fd ["road", "numbers"] (spCall K D Haul.Ok (fun _ => True) fun a _ => a.does .prices) := by
  have sc := sc_prices
  refine F.ok sc (fun vs H Q E h => ?_) (fun cdv A outer s H vs Q E hr h => ?_)
  · obtain ⟨p, B, a, q, ns, rfl, _⟩ := h
    rfl
  · obtain ⟨p, B, a, q, ns, rfl, R, O, _, _, k⟩ := h
    have n2 := O.n2
    have n8 := O.n8
    refine ⟨_, (pss_cons (cs_if (pt_not (ct_val (ce_mcal0 M.has_way hr (cv 0)))) (pss_one (ps_ret (ce_lst (pa_cons (pe_gi T.g_CANNOT_BE) pa_nil)))) pss_nil)
        (pss_one (ps_ret (pe_op c_cat (ce_lst (pa_cons (ce_fld (K := K) rfl (cv 0) rfl) pa_nil)) (ce_cal C.row_told hr (pa_cons (cv 0) pa_nil)))))), ?_⟩
    simp only [Kv364.Abs.does] at k
    obtain ⟨b', hb', Td⟩ := Haul.prices_told (a := a) (by intro e; have := Haul.spots_len a; rw [e] at this; simp at this; omega)
    have hlen : b'.prices.length = a.n := by rw [row_len Td.row, Haul.spots_len]
    refine ci_methD R.obj rfl ?_
    refine c_has_way R O (fun e => ?_) (fun b e => ?_)
    · rw [e] at k
      exact ci_lst (xs := [.int (-33)]) (by decide) fun l hl => fin (xs := [-33]) k R Same.rfl hl rfl
    · rw [e, hb'] at k
      refine ci_stations T R ?_
      refine ci_lst (by simp) fun g hg => ?_
      have s0 : Same H (upd H g (.lst [V.int (a.n : Int)])) := Same.rfl.new hg
      refine c_row_told (R.same s0) O hb' fun H1 rl s1 f1 hR => ?_
      refine ci_cat (xs := [(a.n : Int)]) (ys := b'.prices) (s1 _ _ upd_same) hR (by simp; omega) fun l hl => ?_
      refine fin k R (s0.trans s1) hl ?_
      show (a.n : Int) :: b'.prices = ((b'.prices.length : Nat) : Int) :: b'.prices
      rw [hlen]
end
end Hl
end
section
namespace Hl
open PySem PySem.Spec PyProof.Rows L2
section
variable {P : Program} {w : World} {K : PySem.W.Frag} {mg : Str → Option Value} {base : Heap}
def mk : Nat → List Int → Kv364.Call
  | 0, ns => .begin_ (n0 ns) (n1 ns)
  | 1, ns => .have_ (n0 ns) (n1 ns)
  | 2, ns => .need (n0 ns) (n1 ns)
  | 3, ns => .borrow (n0 ns) (n1 ns)
  | 4, ns => .noborrow (n0 ns)
  | 5, ns => .spoil (n0 ns) (n1 ns)
  | 6, ns => .nospoil (n0 ns)
  | 7, ns => .step (n0 ns)
  | 8, _ => .can
  | 9, _ => .cost
  | 10, _ => .flows
  | 11, _ => .loads
  | 12, _ => .borrowed
  | 13, _ => .spoiled
  | 14, ns => .try_ (ns.map Int.toNat)
  | 15, _ => .prices
  | 16, ns => .bound (ns.map Int.toNat)
  | 17, ns => .ifstep (n0 ns)
  | 18, ns => .ifpit (n0 ns) (n1 ns)
  | 19, ns => .bestpit (n0 ns)
  | 20, ns => .without (n0 ns)
  | 21, _ => .farthest
  | 22, ns => .station (n0 ns)
  | 23, _ => .sums
  | _, _ => .state
def kinds : List (List Int → Prop) := [two, two, two, two, one, two, one, one, fun _ => True, fun _ => True, fun _ => True, fun _ => True, fun _ => True, fun _ => True, arow, fun _ => True, arow, one, two, one, one, fun _ => True, one, fun _ => True, fun _ => True]
def nm (i : Nat) : List Int → Prop := kinds.getD i (fun _ => True)
def how : List Int := [2, 2, 2, 2, 1, 2, 1, 1, 0, 0, 0, 0, 0, 0, 0, 0, 0, 1, 2, 1, 1, 0, 1, 0, 0]
structure Rdx (p : Int) (r : List Int) (c : Kv364.Call) (t : List Int) (i : Nat) (ns : List Int) : Prop where
  num : p = (i : Int)
  lt : i < 25
  call : c = mk i ns
  nums : nm i ns
  row : (i = 14 ∨ i = 16) → r = (ns.length : Int) :: (ns ++ t)
  plain : ¬ (i = 14 ∨ i = 16) → r = ns ++ t ∧ how.getD i 0 = (ns.length : Int)
theorem rdx {p : Int} {r : List Int} {c : Kv364.Call} {t : List Int} (h : Haul.Reads p r c t) : ∃ i ns, Rdx p r c t i ns := by
  cases h with
  | c0 x y t h1 h2 => exact ⟨0, [x, y], rfl, by decide, rfl, ⟨x, y, rfl, h1.1, h2.1⟩, fun e => by omega, fun _ => ⟨rfl, rfl⟩⟩
  | c1 x y t h1 h2 => exact ⟨1, [x, y], rfl, by decide, rfl, ⟨x, y, rfl, h1.1, h2.1⟩, fun e => by omega, fun _ => ⟨rfl, rfl⟩⟩
  | c2 x y t h1 h2 => exact ⟨2, [x, y], rfl, by decide, rfl, ⟨x, y, rfl, h1.1, h2.1⟩, fun e => by omega, fun _ => ⟨rfl, rfl⟩⟩
  | c3 x y t h1 h2 => exact ⟨3, [x, y], rfl, by decide, rfl, ⟨x, y, rfl, h1.1, h2.1⟩, fun e => by omega, fun _ => ⟨rfl, rfl⟩⟩
  | c4 x t h1 => exact ⟨4, [x], rfl, by decide, rfl, ⟨x, rfl, h1.1⟩, fun e => by omega, fun _ => ⟨rfl, rfl⟩⟩
  | c5 x y t h1 h2 => exact ⟨5, [x, y], rfl, by decide, rfl, ⟨x, y, rfl, h1.1, h2.1⟩, fun e => by omega, fun _ => ⟨rfl, rfl⟩⟩
  | c6 x t h1 => exact ⟨6, [x], rfl, by decide, rfl, ⟨x, rfl, h1.1⟩, fun e => by omega, fun _ => ⟨rfl, rfl⟩⟩
  | c7 x t h1 => exact ⟨7, [x], rfl, by decide, rfl, ⟨x, rfl, h1.1⟩, fun e => by omega, fun _ => ⟨rfl, rfl⟩⟩
  | c8 => exact ⟨8, [], rfl, by decide, rfl, trivial, fun e => by omega, fun _ => ⟨rfl, rfl⟩⟩
  | c9 => exact ⟨9, [], rfl, by decide, rfl, trivial, fun e => by omega, fun _ => ⟨rfl, rfl⟩⟩
  | c10 => exact ⟨10, [], rfl, by decide, rfl, trivial, fun e => by omega, fun _ => ⟨rfl, rfl⟩⟩
  | c11 => exact ⟨11, [], rfl, by decide, rfl, trivial, fun e => by omega, fun _ => ⟨rfl, rfl⟩⟩
  | c12 => exact ⟨12, [], rfl, by decide, rfl, trivial, fun e => by omega, fun _ => ⟨rfl, rfl⟩⟩
  | c13 => exact ⟨13, [], rfl, by decide, rfl, trivial, fun e => by omega, fun _ => ⟨rfl, rfl⟩⟩
  | c14 w t h1 h2 => exact ⟨14, w, rfl, by decide, rfl, ⟨h1, h2⟩, fun _ => rfl, fun e => (e (.inl rfl)).elim⟩
  | c15 => exact ⟨15, [], rfl, by decide, rfl, trivial, fun e => by omega, fun _ => ⟨rfl, rfl⟩⟩
  | c16 w t h1 h2 => exact ⟨16, w, rfl, by decide, rfl, ⟨h1, h2⟩, fun _ => rfl, fun e => (e (.inr rfl)).elim⟩
  | c17 x t h1 => exact ⟨17, [x], rfl, by decide, rfl, ⟨x, rfl, h1.1⟩, fun e => by omega, fun _ => ⟨rfl, rfl⟩⟩
  | c18 x y t h1 h2 => exact ⟨18, [x, y], rfl, by decide, rfl, ⟨x, y, rfl, h1.1, h2.1⟩, fun e => by omega, fun _ => ⟨rfl, rfl⟩⟩
  | c19 x t h1 => exact ⟨19, [x], rfl, by decide, rfl, ⟨x, rfl, h1.1⟩, fun e => by omega, fun _ => ⟨rfl, rfl⟩⟩
  | c20 x t h1 => exact ⟨20, [x], rfl, by decide, rfl, ⟨x, rfl, h1.1⟩, fun e => by omega, fun _ => ⟨rfl, rfl⟩⟩
  | c21 => exact ⟨21, [], rfl, by decide, rfl, trivial, fun e => by omega, fun _ => ⟨rfl, rfl⟩⟩
  | c22 x t h1 => exact ⟨22, [x], rfl, by decide, rfl, ⟨x, rfl, h1.1⟩, fun e => by omega, fun _ => ⟨rfl, rfl⟩⟩
  | c23 => exact ⟨23, [], rfl, by decide, rfl, trivial, fun e => by omega, fun _ => ⟨rfl, rfl⟩⟩
  | c24 => exact ⟨24, [], rfl, by decide, rfl, trivial, fun e => by omega, fun _ => ⟨rfl, rfl⟩⟩
def StOf : Kv364.State → Kv364.Abs → Prop
  | none, a => a = Kv364.begun 0 0
  | some b, a => a = b ∧ Haul.Ok a
def SpN (K : PySem.W.Frag) (D : Addr) (i : Nat) : Sp := if i = 0 then spCall K D (fun _ => True) two (fun a ns => a.does (mk 0 ns)) else spCall K D Haul.Ok (nm i) (fun a ns => a.does (mk i ns))
structure TxtA (P : Program) (w : World) (K : PySem.W.Frag) (mg : Str → Option Value) (base : Heap) (C ct hm wr : Addr) (fs : List Addr) : Prop extends Txt K mg C where
  t_CALLS : mg "CALLS" = some (.ref ct)
  t_HOW_MANY : mg "HOW_MANY" = some (.ref hm)
  t_WITH_ROW : mg "WITH_ROW" = some (.ref wr)
  q_CALLS : ∀ H, SqT K H ct (fs.map V.ref)
  q_HOW_MANY : ∀ H, SqT K H hm (how.map V.int)
  q_WITH_ROW : ∀ H, SqT K H wr (([14, 16] : List Int).map V.int)
  fns : ∀ i, i < 25 → ∃ (f : Addr) (fd : FuncData) (ps : List Str), fs[i]? = some f ∧ FnOk P w K mg base CX0 6 f fd ps (SpN K C i) ∧ PySem.W.keepIn K (.ref f) = true ∧ Binds K fd ps []
abbrev s_answer : Stmt := top 88
theorem sc_answer : FnScope ["road", "number", "numbers", "call"] ["road", "number", "numbers"] (defScope s_answer) := ⟨rfl, rfl, rfl, by decide +kernel, rfl, by decide +kernel, by decide +kernel⟩
def sp_answer (K : PySem.W.Frag) (D : Addr) : Sp := fun vs H Q _ => ∃ (p : Addr) (A : Ads) (a : Kv364.Abs) (s : Kv364.State) (i : Nat) (q : Addr) (ns : List Int), vs = [.ref p, .int i, .ref q] ∧ RoadAt D H p A a ∧ StOf s a ∧ i < 25 ∧ IL K H q ns ∧ nm i ns ∧
  ∀ (H' : Hp) (l : Addr) (A' : Ads) (a' : Kv364.Abs), RoadAt D H' p A' a' → StOf (Kv364.act s (mk i ns)).1 a' → Moved H H' p A A' → H l = none → H' l = some (.lst (((Kv364.act s (mk i ns)).2.ret :: (Kv364.act s (mk i ns)).2.nums).map V.int)) → Q (.ref l) H'
theorem act_none {i : Nat} (h : i ≠ 0) (h2 : i < 25) (ns : List Int) : Kv364.act none (mk i ns) = (none, Kv364.say (-11)) := by
  match i, h, h2 with
  | 0, h, _ => exact (h rfl).elim
  | 1, _, _ => rfl
  | 2, _, _ => rfl
  | 3, _, _ => rfl
  | 4, _, _ => rfl
  | 5, _, _ => rfl
  | 6, _, _ => rfl
  | 7, _, _ => rfl
  | 8, _, _ => rfl
  | 9, _, _ => rfl
  | 10, _, _ => rfl
  | 11, _, _ => rfl
  | 12, _, _ => rfl
  | 13, _, _ => rfl
  | 14, _, _ => rfl
  | 15, _, _ => rfl
  | 16, _, _ => rfl
  | 17, _, _ => rfl
  | 18, _, _ => rfl
  | 19, _, _ => rfl
  | 20, _, _ => rfl
  | 21, _, _ => rfl
  | 22, _, _ => rfl
  | 23, _, _ => rfl
  | 24, _, _ => rfl
  | n + 25, _, h => omega
theorem ok_answer {f : Addr} {fd : FuncData} {D ct hm wr : Addr} {fs : List Addr} (F : Fun K "answer" "answer" s_answer f fd) (T : TxtA P w K mg base D ct hm wr fs) : FnOk P w K mg base CX0 7 f fd ["road", "number", "numbers"] (sp_answer K D) := by
  have sc := sc_answer
  refine F.ok sc (fun vs H Q E h => ?_) (fun cdv A outer s H vs Q E hr h => ?_)
  · obtain ⟨p, B, a, s, i, q, ns, rfl, _⟩ := h
    rfl
  · obtain ⟨p, B, a, st, i, q, ns, rfl, R, hst, hi, hq, hn, k⟩ := h
    obtain ⟨g, gd, ps, hg, Fg, hk, hb⟩ := T.fns i hi
    refine ⟨_, (pss_cons (cs_if (PW.pt (cw_and (ct_cmpR c_eq (ce_fld (K := K) rfl (cv 0) rfl) pe_int (nomark _)) (pw_and1 (ct_cmpR c_ne (cv 1) (pe_gi T.g_BEGIN) (nomark _))))) (pss_one (ps_ret (ce_lst (pa_cons (pe_gi T.g_NOT_BEGUN) pa_nil)))) pss_nil)
        (pss_cons (ps_set (i := 3) sc.nd rfl (Or.inl rfl) (pe_ix (c_ixT (K := K) rfl) (pe_glob (v := .ref _) rfl T.t_CALLS rfl) (cv 1) (fun _ _ => rfl)))
        (pss_one (ps_ret (ce_callV hr (cv 3) (pa_cons (cv 0) (pa_cons (cv 2) pa_nil))))))), ?_⟩
    refine ci_stations T.toTxt R ?_
    refine ci_ite (fun c1 => ?_) (fun c1 => ?_)
    · have c1 : (a.n : Int) = 0 := c1
      have es : st = none := by
        cases st with
        | none => rfl
        | some b => have := hst.2.n2; omega
      subst es
      have ea : a = Kv364.begun 0 0 := hst
      refine ci_ite (fun c2 => ?_) (fun c2 => ?_)
      · have c2 : ¬ (i : Int) = 0 := c2
        rw [act_none (by omega) hi] at k
        exact ci_lst (xs := [.int (-11)]) (by decide) fun l hl => k _ l B a (R.same (Same.rfl.new hl)) ea (Moved.same (Same.rfl.new hl)) hl upd_same
      · have c2 : ¬ ¬ (i : Int) = 0 := c2
        have ei : i = 0 := by omega
        subst ei
        refine ci_ixT (T.q_CALLS H) (by omega) (v := .ref g) (by rw [Int.toNat_natCast, List.getElem?_map, hg]; rfl) ?_
        refine ci_callVD Fg hk hb (by decide) ?_
        refine ci_call ?_
        unfold SpN
        rw [if_pos rfl]
        refine ⟨p, B, a, q, ns, rfl, R, trivial, hq, hn, fun H' l A' R' M' hl hL => ?_⟩
        have em : mk 0 ns = .begin_ (n0 ns) (n1 ns) := rfl
        dsimp only at R' hL
        rw [em] at R' hL k
        simp only [Kv364.Abs.does] at R' hL
        simp only [Kv364.act, Kv364.Abs.does] at k
        by_cases cc : n0 ns < 2 ∨ 8 < n0 ns ∨ n1 ns = 0 ∨ 10 < n1 ns
        · rw [if_pos cc] at R' hL
          simp only [if_pos cc] at k
          exact k H' l A' a R' ea M' hl hL
        · rw [if_neg cc] at R' hL
          simp only [if_neg cc] at k
          exact k H' l A' _ R' ⟨rfl, Haul.begun_ok cc⟩ M' hl hL
    · have c1 : ¬ (a.n : Int) = 0 := c1
      cases st with
      | none =>
        have ea : a = Kv364.begun 0 0 := hst
        subst ea
        exact (c1 rfl).elim
      | some b =>
        obtain ⟨rfl, O⟩ := hst
        refine ci_ixT (T.q_CALLS H) (by omega) (v := .ref g) (by rw [Int.toNat_natCast, List.getElem?_map, hg]; rfl) ?_
        refine ci_callVD Fg hk hb (by decide) ?_
        refine ci_call ?_
        have fin2 : ∀ (H' : Hp) (l : Addr) (A' : Ads), RoadAt D H' p A' (a.does (mk i ns)).1 → Moved H H' p B A' → H l = none → H' l = some (.lst (((a.does (mk i ns)).2.ret :: (a.does (mk i ns)).2.nums).map V.int)) → Q (.ref l) H' := fun H' l A' R' M' hl hL => k H' l A' _ R' ⟨rfl, Haul.does_ok O _⟩ M' hl hL
        unfold SpN
        by_cases ei : i = 0
        · subst ei
          rw [if_pos rfl]
          exact ⟨p, B, a, q, ns, rfl, R, trivial, hq, hn, fin2⟩
        · rw [if_neg ei]
          exact ⟨p, B, a, q, ns, rfl, R, O, hq, hn, fin2⟩
theorem c_answer {D : Addr} {H : Hp} {p q : Addr} {A : Ads} {a : Kv364.Abs} {s : Kv364.State} {i : Nat} {ns : List Int} {Q : VK} (R : RoadAt D H p A a) (hs : StOf s a) (hi : i < 25) (hq : IL K H q ns) (hn : nm i ns)
    (h : ∀ (H' : Hp) (l : Addr) (A' : Ads) (a' : Kv364.Abs), RoadAt D H' p A' a' → StOf (Kv364.act s (mk i ns)).1 a' → Moved H H' p A A' → H l = none → H' l = some (.lst (((Kv364.act s (mk i ns)).2.ret :: (Kv364.act s (mk i ns)).2.nums).map V.int)) → Q (.ref l) H') : rSp (sp_answer K D) [.ref p, .int i, .ref q] H Q := ci_call ⟨p, A, a, s, i, q, ns, rfl, R, hs, hi, hq, hn, h⟩
end
end Hl
end
section
namespace Hl
open PySem PySem.Spec PyProof.Rows L2
local macro_rules | `(tactic| walk_at "mono") => `(tactic| repeat' (first
  | exact me_cvar | exact me_c | exact ma_nil | exact mr_cI0 | exact mr_cNe | exact mr_cix | exact ml_clen
  | with_reducible refine me_op ?_ ?_ ?_ | with_reducible refine me_un ?_ ?_ | with_reducible refine me_cfld ?_ | with_reducible refine me_cb ?_ ?_ | with_reducible refine me_call ?_ ?_
  | with_reducible refine ma_cons ?_ ?_ | with_reducible refine mt_ctest ?_ | with_reducible refine mt_cand ?_ ?_))
section
variable {P : Program} {w : World} {K : PySem.W.Frag} {mg : Str → Option Value} {base : Heap}
theorem loads_len {a : Kv364.Abs} (O : Haul.Ok a) (b : Kv364.Plan) : (a.loadsOf b).length ≤ 16 := by
  have n8 := O.n8
  have h := congrArg List.length (Haul.loadsOf_eq a b)
  rw [List.length_map] at h
  rw [h]
  refine Nat.le_trans (clo_len _ _ _ _ _ (Nat.le_refl _)) ?_
  simp [Haul.zlist, Haul.lefts, Haul.lacks]
  omega
theorem flat_len : ∀ l : List (Nat × Nat × Nat), (l.flatMap fun x => [(x.1 : Int), (x.2.1 : Int), (x.2.2 : Int)]).length = 3 * l.length
  | [] => rfl
  | x :: l => by
    have := flat_len l
    rw [List.flatMap_cons, List.length_append, this, List.length_cons]
    simp
    omega
theorem nums_le {a : Kv364.Abs} (O : Haul.Ok a) (c : Kv364.Call) : (a.does c).2.nums.length ≤ 49 := by
  have n8 := O.n8
  have n2 := O.n2
  cases c <;> simp only [Kv364.Abs.does]
  case flows =>
    cases e : a.best with
    | none => exact Nat.zero_le _
    | some b => simp only [Kv364.list, List.length_take]; omega
  case loads =>
    cases e : a.best with
    | none => exact Nat.zero_le _
    | some b =>
      have := loads_len O b
      have := flat_len (a.loadsOf b)
      simp only [this]
      omega
  case borrowed =>
    cases e : a.best with
    | none => exact Nat.zero_le _
    | some b =>
      have h1 := (O.best e).2.2.2
      simp only [List.length_map]
      rw [pits_len _ _ _ (by rw [h1, Haul.spots_len]), Haul.spots_len]
      omega
  case spoiled =>
    cases e : a.best with
    | none => exact Nat.zero_le _
    | some b =>
      have h1 := (O.best e).2.2.2
      simp only [List.length_map]
      rw [pits_len _ _ _ (by rw [h1, Haul.spots_len]), Haul.spots_len]
      omega
  case prices =>
    obtain ⟨b', hb', Td⟩ := Haul.prices_told (a := a) (by intro e; have := Haul.spots_len a; rw [e] at this; simp at this; omega)
    have hlen : b'.prices.length = a.n := by rw [row_len Td.row, Haul.spots_len]
    rw [hb']
    cases e : a.best with
    | none => exact Nat.zero_le _
    | some b => simp only [Kv364.list, hlen]; omega
  case cost => unfold Kv364.Abs.tells; split <;> exact Nat.zero_le _
  case try_ l => split; exact Nat.zero_le _; split <;> exact Nat.zero_le _
  case bound l => split; exact Nat.zero_le _; split; exact Nat.zero_le _; exact (by decide : 1 ≤ 49)
  case ifstep t => split; exact Nat.zero_le _; unfold Kv364.Abs.tells; split <;> exact Nat.zero_le _
  case ifpit i p => split; exact Nat.zero_le _; split; exact Nat.zero_le _; unfold Kv364.Abs.tells; split <;> exact Nat.zero_le _
  case bestpit p => split; exact Nat.zero_le _; split; exact Nat.zero_le _; exact (by decide : 1 ≤ 49)
  case without i => split; exact Nat.zero_le _; unfold Kv364.Abs.tells; split <;> exact Nat.zero_le _
  case farthest => split <;> exact Nat.zero_le _
  case station i => split; exact Nat.zero_le _; exact (by decide : 3 ≤ 49)
  case noborrow i => split; exact Nat.zero_le _; split <;> exact Nat.zero_le _
  case nospoil i => split; exact Nat.zero_le _; split <;> exact Nat.zero_le _
  case have_ i x => split; exact Nat.zero_le _; split <;> exact Nat.zero_le _
  case need i x => split; exact Nat.zero_le _; split <;> exact Nat.zero_le _
  case borrow i x => split; exact Nat.zero_le _; split <;> exact Nat.zero_le _
  case spoil i x => split; exact Nat.zero_le _; split <;> exact Nat.zero_le _
  case step t => split <;> exact Nat.zero_le _
  case begin_ n t => split <;> exact Nat.zero_le _
  case can => exact Nat.zero_le _
  case sums => exact (by decide : 2 ≤ 49)
  case state => exact (by decide : 4 ≤ 49)
theorem act_le {s : Kv364.State} {a : Kv364.Abs} (h : StOf s a) {i : Nat} (hi : i < 25) (ns : List Int) : (Kv364.act s (mk i ns)).2.nums.length ≤ 49 := by
  cases s with
  | none =>
    by_cases e : i = 0
    · subst e
      show (Kv364.act none (.begin_ (n0 ns) (n1 ns))).2.nums.length ≤ 49
      simp only [Kv364.act, Kv364.Abs.does]
      split <;> (try split) <;> (try split) <;> exact Nat.zero_le _
    · rw [act_none e hi]
      exact Nat.zero_le _
  | some b =>
    obtain ⟨rfl, O⟩ := h
    exact nums_le O _
theorem ci_ifCutS {c : TT} {t u v : TS} {D : Ends} {σ : L2.St} {H : Hp} (Rst : L2.St → Hp → Prop) (tail : ∀ σ2 H2, Rst σ2 H2 → v D σ2 H2) (h : ∀ nx : L2.St → Hp → Prop, (∀ σ2 H2, Rst σ2 H2 → nx σ2 H2) → cIfS c t u { nx := nx, rt := D.rt, bk := D.bk, ct := D.ct } σ H) : cCut (cIfS c t u) v D σ H := by
  unfold cCut
  exact h (v D) tail
structure Calls24 (P : Program) (w : World) (K : PySem.W.Frag) (mg : Str → Option Value) (base : Heap) (D : Addr) : Prop where
  answer : Cal P w K mg base "answer" 7 ["road", "number", "numbers"] (sp_answer K D)
def spAns (K : PySem.W.Frag) : Sp := fun vs H Q _ => ∃ (a : Addr) (ns : List Int), vs = [.ref a] ∧ IL K H a ns ∧ ns.length ≤ 30000 ∧ PyKv364.answers_asked ns = true ∧ ∀ (H' : Hp) (p : Addr), H' p = some (.lst ((PyKv364.answers ns).map V.int)) → Q (.ref p) H'
structure Line (D : Addr) (H H' : Hp) (p tl : Addr) (ns : List Int) (pos : Nat) (st : Kv364.State) (a : Kv364.Abs) (A : Ads) (dn out : List Int) (kk : Nat) : Prop where
  same : Same H H'
  road : RoadAt D H' p A a
  stt : StOf st a
  new : ∀ b ∈ A.all, H b = none
  ntl : tl ∉ A.all
  told : H' tl = some (.lst (dn.map V.int))
  le : pos ≤ ns.length
  tail : Haul.Tail st (ns.drop pos) kk out
  all : dn ++ out = PyKv364.answers ns
  short : dn.length + 51 * kk ≤ 13056
abbrev s_answers : Stmt := top 89
theorem sc_answers : FnScope ["calls", "road", "told", "at", "number", "many", "numbers"] ["calls"] (defScope s_answers) := ⟨rfl, rfl, rfl, by decide +kernel, rfl, by decide +kernel, by decide +kernel⟩
theorem ok_answers {f : Addr} {fd : FuncData} {D ct hm wr : Addr} {fs : List Addr} (F : Fun K "answers" "answers" s_answers f fd) (T : TxtA P w K mg base D ct hm wr fs) (M : Makes P w K mg base D) (C : Calls24 P w K mg base D) : FnOk P w K mg base CX0 8 f fd ["calls"] (spAns K) := by
  have sc := sc_answers
  refine F.ok sc (fun vs H Q E h => ?_) (fun cdv A outer s H vs Q E hr h => ?_)
  · obtain ⟨a, ns, rfl, _⟩ := h
    rfl
  · obtain ⟨a0, ns, rfl, hN, hlen, hask, k⟩ := h
    refine ⟨_, (pss_cons (ps_set (i := 1) sc.nd rfl (Or.inl rfl) (ce_make M.Road hr))
        (pss_cons (ps_set (i := 2) sc.nd rfl (Or.inl rfl) (ce_lst pa_nil))
        (pss_cons (ps_set (i := 3) sc.nd rfl (Or.inl rfl) pe_int)
        (pss_cons (cs_while PassesOwn.never (ct_cmpR (c_I0 op_lt) (cv 3) (pe_callB (call_lenC (K := K) rfl) rfl T.n_len boot_len0 (pa_cons (cv 0) pa_nil)) (nomark _)) (pss_cons (ps_set (i := 4) sc.nd rfl (Or.inl rfl) (pe_ix (c_ix (K := K) rfl) (cv 0) (cv 3) (fun _ _ => rfl)))
        (pss_cons (ps_set (i := 5) sc.nd rfl (Or.inl rfl) (pe_ix (c_ixT (K := K) rfl) (pe_glob (v := .ref _) rfl T.t_HOW_MANY rfl) (cv 4) (fun _ _ => rfl)))
        (pss_cons (cs_aug (i := 3) sc.nd rfl (Or.inl rfl) pe_int cip_add)
        (pss_consX (cs_if (ct_cmpR (c_in (K := K) rfl) (cv 4) (pe_glob (v := .ref _) rfl T.t_WITH_ROW rfl) rfl) (pss_cons (ps_set (i := 5) sc.nd rfl (Or.inl rfl) (pe_ix (c_ix (K := K) rfl) (cv 0) (cv 3) (fun _ _ => rfl)))
        (pss_one (cs_aug (i := 3) sc.nd rfl (Or.inl rfl) pe_int cip_add))) pss_nil)
        (pss_cons (ps_set (i := 6) sc.nd rfl (Or.inl rfl) (ce_cal C.answer hr (pa_cons (cv 1) (pa_cons (cv 4) (pa_cons (pe_slice (c_sl (K := K) rfl) (cv 0) (cpo_some (cv 3)) (cpo_some (pe_op (c_I0 op_add) (cv 3) (cv 5)))) pa_nil)))))
        (pss_cons (ps_expr (ce_bm (K := K) rfl PySem.F.slot_list_append PySem.F.type_list_append cmt_append (cv 2) (pa_cons (pe_callB (call_lenC (K := K) rfl) rfl T.n_len boot_len0 (pa_cons (cv 6) pa_nil)) pa_nil)))
        (pss_cons (ps_expr (ce_bm (K := K) rfl PySem.F.slot_list_extend PySem.F.type_list_extend cmt_extend (cv 2) (pa_cons (cv 6) pa_nil)))
        (pss_one (cs_aug (i := 3) sc.nd rfl (Or.inl rfl) (cv 5) cip_add))))))))))
        (pss_one (ps_ret (cv 2))))))), ?_⟩
    refine ci_make fun p dx hp hdx hne => ?_
    refine ⟨p, dx, rfl, upd_same, fun H1 A1 L => ⟨rfl, ?_⟩⟩
    have s1 : Same H H1 := fun b o hb => by
      have m1 : b ≠ p := ne_of_none hb hp
      have m2 : b ≠ dx := ne_of_none hb hdx
      refine L.but b o ?_ m1
      rw [upd_ne m1, upd_ne m2]
      exact hb
    have f1 : ∀ b ∈ A1.all, H b = none := fun b hb => by
      have q := L.fresh b hb
      have m1 : b ≠ p := fun e => by rw [e, upd_same] at q; cases q
      have m2 : b ≠ dx := fun e => by rw [upd_ne m1, e, upd_same] at q; cases q
      rw [upd_ne m1, upd_ne m2] at q
      exact q
    refine ci_lst (by decide) fun tl htl => ?_
    have s2 : Same H (upd H1 tl (.lst [])) := s1.new htl
    have R2 := L.road.same (Same.rfl.new (o := .lst []) htl)
    have ft : H tl = none := s1.free htl
    have nt : tl ∉ A1.all := fun hm => by
      have := L.road
      simp at hm
      rcases hm with e | e | e | e
      · rw [e, this.had] at htl; cases htl
      · rw [e, this.needed] at htl; cases htl
      · rw [e, this.bor] at htl; cases htl
      · rw [e, this.spo] at htl; cases htl
    refine ci_while ?_
    refine while_by (fun σ H' => ∃ (pos : Nat) (st : Kv364.State) (a : Kv364.Abs) (A : Ads) (dn out : List Int) (kk : Nat) (v4 v5 v6 : Option V), σ = [some (.ref a0), some (.ref p), some (.ref tl), some (.int pos), v4, v5, v6] ∧ Line D H H' p tl ns pos st a A dn out kk)
      (fun σ _ => match σ with
        | [_, _, _, some (.int x), _, _, _] => ((ns.length : Int) - x).toNat
        | _ => 0)
      ⟨0, none, Kv364.begun 0 0, A1, [], PyKv364.answers ns, 256, none, none, none, rfl, s2, R2, rfl, f1, nt, upd_same, Nat.zero_le _, Haul.Tail.start hask, rfl, by simp⟩ ?_ ?_
    · rintro σ H' ⟨pos, st, a, B, dn, out, kk, v4, v5, v6, rfl, Ln⟩
      have hN2 := hN.same Ln.same
      refine ci_len hN2 ?_
      refine i_ite (fun c => ?_) (fun c => ?_)
      · have c : (pos : Int) < (ns.length : Int) := c
        have Tl := Ln.tail
        rw [Haul.drop_getD (by omega)] at Tl
        obtain ⟨cl, t, k', out', Rd', ek, eo, Tl'⟩ := Tl.cons
        obtain ⟨i, ms, X⟩ := rdx Rd'
        have hi25 := X.lt
        have e4 : ns.getD ((pos : Int)).toNat 0 = (i : Int) := by rw [Int.toNat_natCast]; exact X.num
        have hdrop : ns.drop pos = ns.getD pos 0 :: ns.drop (pos + 1) := Haul.drop_getD (by omega)
        refine ci_ix hN2 (by omega) c ?_
        rw [e4]
        refine ci_ixT (T.q_HOW_MANY H') (by omega) (v := .int (how.getD i 0)) (by rw [Int.toNat_natCast]; exact at_ints (by show i < 25; exact hi25)) ?_
        refine ci_ifCutS (fun σ2 H2 => H2 = H' ∧ ∃ pos2 : Nat, σ2 = [some (.ref a0), some (.ref p), some (.ref tl), some (.int pos2), some (.int i), some (.int (ms.length : Int)), v6] ∧ ns.drop pos2 = ms ++ t ∧ pos < pos2 ∧ pos2 ≤ ns.length) ?_ ?_
        · rintro σ2 H2 ⟨rfl, pos2, rfl, hd, hlt, hle⟩
          have hlens : ms.length + t.length = ns.length - pos2 := by
            have := congrArg List.length hd
            rw [List.length_drop, List.length_append] at this
            omega
          refine ci_cut hN2 fun q hq => ?_
          rw [cut_mid (by omega) (by omega) (by omega), show ((pos2 : Int) + (ms.length : Int) - (pos2 : Int)).toNat = ms.length by omega, Int.toNat_natCast, hd, List.take_left]
          have s3 : Same H2 (upd H2 q (.lst (ms.map V.int))) := Same.rfl.new hq
          refine c_answer (Ln.road.same s3) Ln.stt hi25 (IL.of upd_same) X.nums fun H3 l A3 a3 R3 st3 M3 hl hL => ?_
          have ntp : tl ≠ p := ne_of Ln.told Ln.road.obj (by intro e; cases e)
          have t3 : H3 tl = some (.lst (dn.map V.int)) := M3.keep tl _ (s3 _ _ Ln.told) ntp Ln.ntl
          have nl : l ≠ tl := fun e => by rw [e, s3 _ _ Ln.told] at hl; cases hl
          have hal := act_le Ln.stt hi25 ms
          generalize hans : Kv364.act st (mk i ms) = ans at st3 hL hal
          have hsh := Ln.short
          refine ci_bm t3 ?_
          refine ci_len (IL.of hL) ?_
          refine ci_app t3 (by rw [List.length_map]; omega) ?_
          refine ci_bm upd_same ?_
          refine ci_ext upd_same (by rw [upd_ne nl]; exact hL) (by simp; omega) ?_
          refine ⟨⟨pos2 + ms.length, ans.1, a3, A3, dn ++ Haul.said ans.2, out', k', some (.int i), some (.int (ms.length : Int)), some (.ref l), rfl, ?_⟩, ?_⟩
          · have sH : Same H H3 := fun b o hb => by
              have n1 : b ≠ p := ne_of_none hb hp
              have n2 : b ∉ B.all := fun hm => by rw [Ln.new b hm] at hb; cases hb
              exact M3.keep b o (s3 _ _ (Ln.same _ _ hb)) n1 n2
            have n3 : tl ∉ A3.all := fun hm => by
              rcases M3.new tl hm with h | h
              · exact Ln.ntl h
              · rw [s3 _ _ Ln.told] at h; cases h
            refine ⟨(sH.re ft).re ft, ?_, st3, fun b hb => ?_, n3, ?_, by omega, ?_, ?_, ?_⟩
            · have ne1 : ∀ b o, H3 b = some o → b ≠ tl → upd (upd H3 tl (.lst (dn.map V.int ++ [V.int (((ans.2.ret :: ans.2.nums).length : Nat) : Int)]))) tl (.lst (dn.map V.int ++ [V.int (((ans.2.ret :: ans.2.nums).length : Nat) : Int)] ++ (ans.2.ret :: ans.2.nums).map V.int)) b = some o := fun b o h n => by rw [upd_ne n, upd_ne n]; exact h
              simp at n3
              exact ⟨ne1 _ _ R3.obj (Ne.symm ntp), ne1 _ _ R3.had (Ne.symm n3.1), ne1 _ _ R3.needed (Ne.symm n3.2.1), ne1 _ _ R3.bor (Ne.symm n3.2.2.1), ne1 _ _ R3.spo (Ne.symm n3.2.2.2), R3.nd⟩
            · rcases M3.new b hb with h | h
              · exact Ln.new b h
              · exact (Ln.same.trans s3).free h
            · rw [upd_same]
              simp [Haul.said]
            · have et : ns.drop (pos2 + ms.length) = t := by rw [← List.drop_drop, hd, List.drop_left]
              rw [et, ← hans, ← X.call]
              exact Tl'
            · rw [← Ln.all, eo, X.call, hans, List.append_assoc]
            · rw [List.length_append]
              simp only [Haul.said, List.length_cons]
              omega
          · show ((ns.length : Int) - ((pos2 : Int) + (ms.length : Int))).toNat < ((ns.length : Int) - (pos : Int)).toNat
            omega
        · intro nx hnx
          refine ci_in (T.q_WITH_ROW H') ?_
          refine ci_ite (fun cr => ?_) (fun cr => ?_)
          · have cr : i = 14 ∨ i = 16 := by
              have cr : (i : Int) ∈ ([14, 16] : List Int) := cr
              simp at cr
              omega
            have er := X.row cr
            have hl2 : pos + 1 < ns.length := by
              have := congrArg List.length er
              rw [List.length_drop, List.length_cons] at this
              omega
            rw [Haul.drop_getD hl2] at er
            obtain ⟨g1, g2⟩ := List.cons.inj er
            have e5 : ns.getD ((pos : Int) + 1).toNat 0 = (ms.length : Int) := by rw [show ((pos : Int) + 1).toNat = pos + 1 by omega]; exact g1
            refine ci_ix hN2 (show (0 : Int) ≤ (pos : Int) + 1 by omega) (show (pos : Int) + 1 < (ns.length : Int) by omega) ?_
            rw [e5]
            refine hnx _ _ ⟨rfl, pos + 1 + 1, ?_, g2, by omega, by omega⟩
            rfl
          · have cr : ¬ (i = 14 ∨ i = 16) := fun h => cr (by
              show (i : Int) ∈ ([14, 16] : List Int)
              rcases h with rfl | rfl <;> simp)
            obtain ⟨g1, g2⟩ := X.plain cr
            refine hnx _ _ ⟨rfl, pos + 1, ?_, g1, by omega, by omega⟩
            rw [← g2]
            rfl
      · have c : ¬ (pos : Int) < (ns.length : Int) := c
        have Tl := Ln.tail
        rw [List.drop_eq_nil_of_le (by omega)] at Tl
        have eo := Tl.nil
        have ea := Ln.all
        rw [eo, List.append_nil] at ea
        refine k H' tl ?_
        rw [← ea]
        exact Ln.told
    · show MT _
      walk_at "mono"
end
end Hl
end
section
namespace Hl
open PySem PySem.Spec PyProof.Rows L2
structure DefIn (K : PySem.W.Frag) (x : Str) (st : Stmt) (f : Addr) : Prop where
  ns : PySem.W.nsIn K mainGlobals x = some (some (.ref f))
  fn : ∃ fd, Fun K x x st f fd
theorem defIn {K : PySem.W.Frag} {x : Str} {st : Stmt} {f : Addr} {oc : Value} {od an : Option Addr} {osl : Array (Option Value)} {kV doc pm cdv ct : Value} (a : PySem.W.nsIn K mainGlobals x = some (some (.ref f))) (l : K.lookup f = some ⟨oc, od, .func (PySem.W.fnOf x x (defArgs st) (defBody st) (defScope st) .none kV doc pm an cdv ct), osl⟩)
    (c : PySem.W.codeIn K cdv x = true) (k : PySem.W.keepIn K (.ref f) = true) : DefIn K x st f := ⟨a, _, fun_mk l c k⟩
structure MethIn (K : PySem.W.Frag) (C : Addr) (m q : Str) (st : Stmt) (f : Addr) : Prop where
  at_ : Meth K C m f
  fn : ∃ fd, Fun K m q st f fd
theorem methIn {K : PySem.W.Frag} {C : Addr} {m q : Str} {st : Stmt} {f : Addr} {oc : Value} {od an : Option Addr} {osl : Array (Option Value)} {kV doc pm cdv ct : Value} (a : PySem.W.findIn K (.ref C) m = some (some (.ref f))) (i : PySem.W.isFn K (.ref f) = true) (l : K.lookup f = some ⟨oc, od, .func (PySem.W.fnOf m q (defArgs st) (defBody st) (defScope st) .none kV doc pm an cdv ct), osl⟩)
    (c : PySem.W.codeIn K cdv q = true) (k : PySem.W.keepIn K (.ref f) = true) : MethIn K C m q st f := ⟨⟨a, i, k⟩, _, fun_mk l c k⟩
def IntIn (K : PySem.W.Frag) (x : Str) (v : Int) : Prop := ∃ t, PySem.W.nsIn K mainGlobals x = some (some (.int v t))
structure TupIn (K : PySem.W.Frag) (x : Str) (a : Addr) (us : List Value) : Prop where
  ns : PySem.W.nsIn K mainGlobals x = some (some (.ref a))
  tup : ∃ (o : Obj) (its : Array Value) (n : Nat), K.lookup a = some o ∧ o.cls = .type "tuple" ∧ o.data = .seq its n ∧ its.size ≤ sizeLine ∧ its.toList = us
theorem vals_refs : ∀ fs : List Addr, Vals (fs.map V.ref) (fs.map Value.ref)
  | [] => .nil
  | _ :: fs => .cons rfl (vals_refs fs)
theorem TupIn.sq {K : PySem.W.Frag} {x : Str} {a : Addr} {us : List Value} {xs : List V} (h : TupIn K x a us) (v : Vals xs us) (H : Hp) : SqT K H a xs := by
  obtain ⟨o, its, n, h1, h2, h3, h4, h5⟩ := h.tup
  exact .inr ⟨o, its, n, h1, h2, h3, h4, by rw [h5]; exact v⟩
structure IntsV (us : List Value) (ns : List Int) : Prop where
  ex : ∃ ts : List Tok, us = ns.zipWith (fun n t => Value.int n t) ts ∧ ts.length = ns.length
theorem IntsV.vals : ∀ {us : List Value} {ns : List Int}, IntsV us ns → Vals (ns.map V.int) us
  | us, [], ⟨ts, e, _⟩ => by subst e; exact .nil
  | us, n :: ns, ⟨[], _, e⟩ => by cases e
  | us, n :: ns, ⟨t :: ts, e, el⟩ => by
    subst e
    exact .cons ⟨t, rfl⟩ (IntsV.vals ⟨ts, rfl, by simpa using el⟩)
section
variable {K : PySem.W.Frag} {x m q : Str} {st : Stmt} {f C : Addr} {oc : Value} {od an : Option Addr} {osl : Array (Option Value)} {kV doc pm cdv ct : Value}
theorem defEx (a : PySem.W.nsIn K mainGlobals x = some (some (.ref f))) (l : K.lookup f = some ⟨oc, od, .func (PySem.W.fnOf x x (defArgs st) (defBody st) (defScope st) .none kV doc pm an cdv ct), osl⟩) (c : PySem.W.codeIn K cdv x = true) (k : PySem.W.keepIn K (.ref f) = true) : ∃ f, DefIn K x st f := ⟨f, defIn a l c k⟩
theorem callEx {fs : List Addr} {i : Nat} (a : PySem.W.nsIn K mainGlobals x = some (some (.ref f))) (e : fs[i]? = some f) (l : K.lookup f = some ⟨oc, od, .func (PySem.W.fnOf x x (defArgs st) (defBody st) (defScope st) .none kV doc pm an cdv ct), osl⟩) (c : PySem.W.codeIn K cdv x = true) (k : PySem.W.keepIn K (.ref f) = true) : ∃ f, fs[i]? = some f ∧ DefIn K x st f := ⟨f, e, defIn a l c k⟩
theorem methEx (a : PySem.W.findIn K (.ref C) m = some (some (.ref f))) (i : PySem.W.isFn K (.ref f) = true) (l : K.lookup f = some ⟨oc, od, .func (PySem.W.fnOf m q (defArgs st) (defBody st) (defScope st) .none kV doc pm an cdv ct), osl⟩) (c : PySem.W.codeIn K cdv q = true) (k : PySem.W.keepIn K (.ref f) = true) : ∃ f, MethIn K C m q st f := ⟨f, methIn a i l c k⟩
theorem intEx {v : Int} {t : Tok} (a : PySem.W.nsIn K mainGlobals x = some (some (.int v t))) : IntIn K x v := ⟨t, a⟩
theorem tupEx {a : Addr} {o : Obj} {its : Array Value} {n : Nat} {us : List Value} (h1 : PySem.W.nsIn K mainGlobals x = some (some (.ref a))) (h2 : K.lookup a = some o) (h3 : o.cls = .type "tuple") (h4 : o.data = .seq its n) (h5 : its.size ≤ sizeLine) (h6 : its.toList = us) : TupIn K x a us := ⟨h1, o, its, n, h2, h3, h4, h5, h6⟩
theorem rowEx {a : Addr} {o : Obj} {its : Array Value} {n : Nat} {ns : List Int} (h1 : PySem.W.nsIn K mainGlobals x = some (some (.ref a))) (h2 : K.lookup a = some o) (h3 : o.cls = .type "tuple") (h4 : o.data = .seq its n) (h5 : its.size ≤ sizeLine) (h6 : IntsV its.toList ns) : ∃ us, TupIn K x a us ∧ IntsV us ns := ⟨_, ⟨h1, o, its, n, h2, h3, h4, h5, rfl⟩, h6⟩
end
structure Facts (K : PySem.W.Frag) (C ct hm wr : Addr) (fs : List Addr) : Prop where
  road : PySem.W.nsIn K mainGlobals "Road" = some (some (.ref C))
  g_LEAST_STEP : IntIn K "LEAST_STEP" 1
  g_MOST_STEP : IntIn K "MOST_STEP" 10
  g_NO_PIT : IntIn K "NO_PIT" (-1)
  g_NEVER : IntIn K "NEVER" 1000000
  g_REACH : IntIn K "REACH" 81
  g_NO_STATION : IntIn K "NO_STATION" (-2)
  g_NO_SUCH_PIT : IntIn K "NO_SUCH_PIT" (-6)
  g_NOT_BEGUN : IntIn K "NOT_BEGUN" (-11)
  g_OUT_OF_RANGE : IntIn K "OUT_OF_RANGE" (-22)
  g_CANNOT_BE : IntIn K "CANNOT_BE" (-33)
  g_MOST_WORTH : IntIn K "MOST_WORTH" 130
  g_BARRED : IntIn K "BARRED" (-1000000)
  g_MOST_HAULED : IntIn K "MOST_HAULED" 72
  g_LEAST_STATIONS : IntIn K "LEAST_STATIONS" 2
  g_MOST_STATIONS : IntIn K "MOST_STATIONS" 8
  g_MOST_EARTH : IntIn K "MOST_EARTH" 9
  g_MOST_PRICE : IntIn K "MOST_PRICE" 50
  g_BEGIN : IntIn K "BEGIN" 0
  n_abs : PySem.W.nsIn K mainGlobals "abs" = some none
  n_len : PySem.W.nsIn K mainGlobals "len" = some none
  n_min : PySem.W.nsIn K mainGlobals "min" = some none
  n_max : PySem.W.nsIn K mainGlobals "max" = some none
  n_sum : PySem.W.nsIn K mainGlobals "sum" = some none
  n_range : PySem.W.nsIn K mainGlobals "range" = some none
  n_enumerate : PySem.W.nsIn K mainGlobals "enumerate" = some none
  n_zip : PySem.W.nsIn K mainGlobals "zip" = some none
  n_list : PySem.W.nsIn K mainGlobals "list" = some none
  a_stations : NoAttr K C "stations"
  a_step_cost : NoAttr K C "step_cost"
  a_had : NoAttr K C "had"
  a_needed : NoAttr K C "needed"
  a_borrow_prices : NoAttr K C "borrow_prices"
  a_spoil_prices : NoAttr K C "spoil_prices"
  cl : Cls K C
  makes : PySem.W.makesIn K C = true
  kc : PySem.W.keepIn K (.ref C) = true
  m_init : ∃ f, MethIn K C "__init__" "Road.__init__" s___init__ f
  m_lay : ∃ f, MethIn K C "lay" "Road.lay" s_lay f
  m_twin : ∃ f, MethIn K C "twin" "Road.twin" s_twin f
  m_surplus : ∃ f, MethIn K C "surplus" "Road.surplus" s_surplus f
  m_has_way : ∃ f, MethIn K C "has_way" "Road.has_way" s_has_way f
  d_least_cost : ∃ f, DefIn K "least_cost" s_least_cost f
  d_cheapest_way : ∃ f, DefIn K "cheapest_way" s_cheapest_way f
  d_way_cost : ∃ f, DefIn K "way_cost" s_way_cost f
  d_pit_amounts : ∃ f, DefIn K "pit_amounts" s_pit_amounts f
  d_rest_costs : ∃ f, DefIn K "rest_costs" s_rest_costs f
  d_with_hauling : ∃ f, DefIn K "with_hauling" s_with_hauling f
  d_with_borrowing : ∃ f, DefIn K "with_borrowing" s_with_borrowing f
  d_with_spoiling : ∃ f, DefIn K "with_spoiling" s_with_spoiling f
  d_shifted : ∃ f, DefIn K "shifted" s_shifted f
  d_first_onward : ∃ f, DefIn K "first_onward" s_first_onward f
  d_onward_cost : ∃ f, DefIn K "onward_cost" s_onward_cost f
  d_pit_cost : ∃ f, DefIn K "pit_cost" s_pit_cost f
  d_loads_of : ∃ f, DefIn K "loads_of" s_loads_of f
  d_is_allowed : ∃ f, DefIn K "is_allowed" s_is_allowed f
  d_suits_pits : ∃ f, DefIn K "suits_pits" s_suits_pits f
  d_what_it_says : ∃ f, DefIn K "what_it_says" s_what_it_says f
  d_said_at : ∃ f, DefIn K "said_at" s_said_at f
  d_row_told : ∃ f, DefIn K "row_told" s_row_told f
  d_most_said : ∃ f, DefIn K "most_said" s_most_said f
  d_said_or_barred : ∃ f, DefIn K "said_or_barred" s_said_or_barred f
  d_within_a_step : ∃ f, DefIn K "within_a_step" s_within_a_step f
  d_first_price : ∃ f, DefIn K "first_price" s_first_price f
  d_nearness : ∃ f, DefIn K "nearness" s_nearness f
  d_next_price : ∃ f, DefIn K "next_price" s_next_price f
  d_swap : ∃ f, DefIn K "swap" s_swap f
  d_is_step : ∃ f, DefIn K "is_step" s_is_step f
  d_refusal : ∃ f, DefIn K "refusal" s_refusal f
  d_row_fits : ∃ f, DefIn K "row_fits" s_row_fits f
  d_lowered : ∃ f, DefIn K "lowered" s_lowered f
  d_put_earth : ∃ f, DefIn K "put_earth" s_put_earth f
  d_put_pit : ∃ f, DefIn K "put_pit" s_put_pit f
  d_take_pit : ∃ f, DefIn K "take_pit" s_take_pit f
  d_count_pits : ∃ f, DefIn K "count_pits" s_count_pits f
  d_cost_or_refusal : ∃ f, DefIn K "cost_or_refusal" s_cost_or_refusal f
  d_cost_with_pit : ∃ f, DefIn K "cost_with_pit" s_cost_with_pit f
  d_in_all_and_each : ∃ f, DefIn K "in_all_and_each" s_in_all_and_each f
  d_answer : ∃ f, DefIn K "answer" s_answer f
  d_answers : ∃ f, DefIn K "answers" s_answers f
  d_begin : ∃ f, fs[0]? = some f ∧ DefIn K "begin" s_begin f
  d_have : ∃ f, fs[1]? = some f ∧ DefIn K "have" s_have f
  d_need : ∃ f, fs[2]? = some f ∧ DefIn K "need" s_need f
  d_borrow : ∃ f, fs[3]? = some f ∧ DefIn K "borrow" s_borrow f
  d_noborrow : ∃ f, fs[4]? = some f ∧ DefIn K "noborrow" s_noborrow f
  d_spoil : ∃ f, fs[5]? = some f ∧ DefIn K "spoil" s_spoil f
  d_nospoil : ∃ f, fs[6]? = some f ∧ DefIn K "nospoil" s_nospoil f
  d_step : ∃ f, fs[7]? = some f ∧ DefIn K "step" s_step f
  d_can : ∃ f, fs[8]? = some f ∧ DefIn K "can" s_can f
  d_cost : ∃ f, fs[9]? = some f ∧ DefIn K "cost" s_cost f
  d_flows : ∃ f, fs[10]? = some f ∧ DefIn K "flows" s_flows f
  d_loads : ∃ f, fs[11]? = some f ∧ DefIn K "loads" s_loads f
  d_borrowed : ∃ f, fs[12]? = some f ∧ DefIn K "borrowed" s_borrowed f
  d_spoiled : ∃ f, fs[13]? = some f ∧ DefIn K "spoiled" s_spoiled f
  d_try_way : ∃ f, fs[14]? = some f ∧ DefIn K "try_way" s_try_way f
  d_prices : ∃ f, fs[15]? = some f ∧ DefIn K "prices" s_prices f
  d_bound : ∃ f, fs[16]? = some f ∧ DefIn K "bound" s_bound f
  d_ifstep : ∃ f, fs[17]? = some f ∧ DefIn K "ifstep" s_ifstep f
  d_ifpit : ∃ f, fs[18]? = some f ∧ DefIn K "ifpit" s_ifpit f
  d_bestpit : ∃ f, fs[19]? = some f ∧ DefIn K "bestpit" s_bestpit f
  d_without : ∃ f, fs[20]? = some f ∧ DefIn K "without" s_without f
  d_farthest : ∃ f, fs[21]? = some f ∧ DefIn K "farthest" s_farthest f
  d_station : ∃ f, fs[22]? = some f ∧ DefIn K "station" s_station f
  d_sums : ∃ f, fs[23]? = some f ∧ DefIn K "sums" s_sums f
  d_state : ∃ f, fs[24]? = some f ∧ DefIn K "state" s_state f
  calls : TupIn K "CALLS" ct (fs.map Value.ref)
  hows : ∃ us, TupIn K "HOW_MANY" hm us ∧ IntsV us how
  rows : ∃ us, TupIn K "WITH_ROW" wr us ∧ IntsV us [14, 16]
theorem all_mk {P : Program} {w : World} {K : PySem.W.Frag} {h : Heap} {mg : Str → Option Value} {fa C ct hm wr : Addr} {fs : List Addr} (X : K.In h) (G : h.Ns mainGlobals mg) (hfa : mg "answers" = some (.ref fa)) (Y : Facts K C ct hm wr fs) :
    ∃ fd : FuncData, (∀ (s : Shared) (us : List Value), us.length = (["calls"] : List Str).length → BindsTo s fd ⟨us, []⟩ ((["calls"] : List Str).zip us)) ∧ ∀ base : Heap, K.In base → base.Ns mainGlobals mg → FnOk P w K mg base CX0 8 fa fd ["calls"] (spAns K) := by
  have gi : ∀ {x : Str} {v : Int}, IntIn K x v → GI mg x v := fun ⟨t, e⟩ => ⟨t, PySem.W.mg_of X G e⟩
  have T : Txt K mg C := ⟨gi Y.g_LEAST_STEP, gi Y.g_MOST_STEP, gi Y.g_NO_PIT, gi Y.g_NEVER, gi Y.g_REACH, gi Y.g_NO_STATION, gi Y.g_NO_SUCH_PIT, gi Y.g_NOT_BEGUN, gi Y.g_OUT_OF_RANGE, gi Y.g_CANNOT_BE, gi Y.g_MOST_WORTH, gi Y.g_BARRED, gi Y.g_MOST_HAULED, gi Y.g_LEAST_STATIONS, gi Y.g_MOST_STATIONS, gi Y.g_MOST_EARTH, gi Y.g_MOST_PRICE, gi Y.g_BEGIN, PySem.W.mg_none_of X G Y.n_abs, PySem.W.mg_none_of X G Y.n_len, PySem.W.mg_none_of X G Y.n_min, PySem.W.mg_none_of X G Y.n_max, PySem.W.mg_none_of X G Y.n_sum, PySem.W.mg_none_of X G Y.n_range, PySem.W.mg_none_of X G Y.n_enumerate, PySem.W.mg_none_of X G Y.n_zip, PySem.W.mg_none_of X G Y.n_list, Y.cl, Y.a_stations, Y.a_step_cost, Y.a_had, Y.a_needed, Y.a_borrow_prices, Y.a_spoil_prices⟩
  obtain ⟨f_init, M_init⟩ := Y.m_init
  obtain ⟨fd_init, F_init⟩ := M_init.fn
  obtain ⟨f_lay, M_lay⟩ := Y.m_lay
  obtain ⟨fd_lay, F_lay⟩ := M_lay.fn
  obtain ⟨f_twin, M_twin⟩ := Y.m_twin
  obtain ⟨fd_twin, F_twin⟩ := M_twin.fn
  obtain ⟨f_surplus, M_surplus⟩ := Y.m_surplus
  obtain ⟨fd_surplus, F_surplus⟩ := M_surplus.fn
  obtain ⟨f_has_way, M_has_way⟩ := Y.m_has_way
  obtain ⟨fd_has_way, F_has_way⟩ := M_has_way.fn
  obtain ⟨f_least_cost, D_least_cost⟩ := Y.d_least_cost
  obtain ⟨fd_least_cost, F_least_cost⟩ := D_least_cost.fn
  obtain ⟨f_cheapest_way, D_cheapest_way⟩ := Y.d_cheapest_way
  obtain ⟨fd_cheapest_way, F_cheapest_way⟩ := D_cheapest_way.fn
  obtain ⟨f_way_cost, D_way_cost⟩ := Y.d_way_cost
  obtain ⟨fd_way_cost, F_way_cost⟩ := D_way_cost.fn
  obtain ⟨f_pit_amounts, D_pit_amounts⟩ := Y.d_pit_amounts
  obtain ⟨fd_pit_amounts, F_pit_amounts⟩ := D_pit_amounts.fn
  obtain ⟨f_rest_costs, D_rest_costs⟩ := Y.d_rest_costs
  obtain ⟨fd_rest_costs, F_rest_costs⟩ := D_rest_costs.fn
  obtain ⟨f_with_hauling, D_with_hauling⟩ := Y.d_with_hauling
  obtain ⟨fd_with_hauling, F_with_hauling⟩ := D_with_hauling.fn
  obtain ⟨f_with_borrowing, D_with_borrowing⟩ := Y.d_with_borrowing
  obtain ⟨fd_with_borrowing, F_with_borrowing⟩ := D_with_borrowing.fn
  obtain ⟨f_with_spoiling, D_with_spoiling⟩ := Y.d_with_spoiling
  obtain ⟨fd_with_spoiling, F_with_spoiling⟩ := D_with_spoiling.fn
  obtain ⟨f_shifted, D_shifted⟩ := Y.d_shifted
  obtain ⟨fd_shifted, F_shifted⟩ := D_shifted.fn
  obtain ⟨f_first_onward, D_first_onward⟩ := Y.d_first_onward
  obtain ⟨fd_first_onward, F_first_onward⟩ := D_first_onward.fn
  obtain ⟨f_onward_cost, D_onward_cost⟩ := Y.d_onward_cost
  obtain ⟨fd_onward_cost, F_onward_cost⟩ := D_onward_cost.fn
  obtain ⟨f_pit_cost, D_pit_cost⟩ := Y.d_pit_cost
  obtain ⟨fd_pit_cost, F_pit_cost⟩ := D_pit_cost.fn
  obtain ⟨f_loads_of, D_loads_of⟩ := Y.d_loads_of
  obtain ⟨fd_loads_of, F_loads_of⟩ := D_loads_of.fn
  obtain ⟨f_is_allowed, D_is_allowed⟩ := Y.d_is_allowed
  obtain ⟨fd_is_allowed, F_is_allowed⟩ := D_is_allowed.fn
  obtain ⟨f_suits_pits, D_suits_pits⟩ := Y.d_suits_pits
  obtain ⟨fd_suits_pits, F_suits_pits⟩ := D_suits_pits.fn
  obtain ⟨f_what_it_says, D_what_it_says⟩ := Y.d_what_it_says
  obtain ⟨fd_what_it_says, F_what_it_says⟩ := D_what_it_says.fn
  obtain ⟨f_said_at, D_said_at⟩ := Y.d_said_at
  obtain ⟨fd_said_at, F_said_at⟩ := D_said_at.fn
  obtain ⟨f_row_told, D_row_told⟩ := Y.d_row_told
  obtain ⟨fd_row_told, F_row_told⟩ := D_row_told.fn
  obtain ⟨f_most_said, D_most_said⟩ := Y.d_most_said
  obtain ⟨fd_most_said, F_most_said⟩ := D_most_said.fn
  obtain ⟨f_said_or_barred, D_said_or_barred⟩ := Y.d_said_or_barred
  obtain ⟨fd_said_or_barred, F_said_or_barred⟩ := D_said_or_barred.fn
  obtain ⟨f_within_a_step, D_within_a_step⟩ := Y.d_within_a_step
  obtain ⟨fd_within_a_step, F_within_a_step⟩ := D_within_a_step.fn
  obtain ⟨f_first_price, D_first_price⟩ := Y.d_first_price
  obtain ⟨fd_first_price, F_first_price⟩ := D_first_price.fn
  obtain ⟨f_nearness, D_nearness⟩ := Y.d_nearness
  obtain ⟨fd_nearness, F_nearness⟩ := D_nearness.fn
  obtain ⟨f_next_price, D_next_price⟩ := Y.d_next_price
  obtain ⟨fd_next_price, F_next_price⟩ := D_next_price.fn
  obtain ⟨f_swap, D_swap⟩ := Y.d_swap
  obtain ⟨fd_swap, F_swap⟩ := D_swap.fn
  obtain ⟨f_is_step, D_is_step⟩ := Y.d_is_step
  obtain ⟨fd_is_step, F_is_step⟩ := D_is_step.fn
  obtain ⟨f_refusal, D_refusal⟩ := Y.d_refusal
  obtain ⟨fd_refusal, F_refusal⟩ := D_refusal.fn
  obtain ⟨f_row_fits, D_row_fits⟩ := Y.d_row_fits
  obtain ⟨fd_row_fits, F_row_fits⟩ := D_row_fits.fn
  obtain ⟨f_lowered, D_lowered⟩ := Y.d_lowered
  obtain ⟨fd_lowered, F_lowered⟩ := D_lowered.fn
  obtain ⟨f_put_earth, D_put_earth⟩ := Y.d_put_earth
  obtain ⟨fd_put_earth, F_put_earth⟩ := D_put_earth.fn
  obtain ⟨f_put_pit, D_put_pit⟩ := Y.d_put_pit
  obtain ⟨fd_put_pit, F_put_pit⟩ := D_put_pit.fn
  obtain ⟨f_take_pit, D_take_pit⟩ := Y.d_take_pit
  obtain ⟨fd_take_pit, F_take_pit⟩ := D_take_pit.fn
  obtain ⟨f_count_pits, D_count_pits⟩ := Y.d_count_pits
  obtain ⟨fd_count_pits, F_count_pits⟩ := D_count_pits.fn
  obtain ⟨f_cost_or_refusal, D_cost_or_refusal⟩ := Y.d_cost_or_refusal
  obtain ⟨fd_cost_or_refusal, F_cost_or_refusal⟩ := D_cost_or_refusal.fn
  obtain ⟨f_cost_with_pit, D_cost_with_pit⟩ := Y.d_cost_with_pit
  obtain ⟨fd_cost_with_pit, F_cost_with_pit⟩ := D_cost_with_pit.fn
  obtain ⟨f_in_all_and_each, D_in_all_and_each⟩ := Y.d_in_all_and_each
  obtain ⟨fd_in_all_and_each, F_in_all_and_each⟩ := D_in_all_and_each.fn
  obtain ⟨f_begin, i_begin, D_begin⟩ := Y.d_begin
  obtain ⟨fd_begin, F_begin⟩ := D_begin.fn
  obtain ⟨f_have, i_have, D_have⟩ := Y.d_have
  obtain ⟨fd_have, F_have⟩ := D_have.fn
  obtain ⟨f_need, i_need, D_need⟩ := Y.d_need
  obtain ⟨fd_need, F_need⟩ := D_need.fn
  obtain ⟨f_borrow, i_borrow, D_borrow⟩ := Y.d_borrow
  obtain ⟨fd_borrow, F_borrow⟩ := D_borrow.fn
  obtain ⟨f_noborrow, i_noborrow, D_noborrow⟩ := Y.d_noborrow
  obtain ⟨fd_noborrow, F_noborrow⟩ := D_noborrow.fn
  obtain ⟨f_spoil, i_spoil, D_spoil⟩ := Y.d_spoil
  obtain ⟨fd_spoil, F_spoil⟩ := D_spoil.fn
  obtain ⟨f_nospoil, i_nospoil, D_nospoil⟩ := Y.d_nospoil
  obtain ⟨fd_nospoil, F_nospoil⟩ := D_nospoil.fn
  obtain ⟨f_step, i_step, D_step⟩ := Y.d_step
  obtain ⟨fd_step, F_step⟩ := D_step.fn
  obtain ⟨f_can, i_can, D_can⟩ := Y.d_can
  obtain ⟨fd_can, F_can⟩ := D_can.fn
  obtain ⟨f_cost, i_cost, D_cost⟩ := Y.d_cost
  obtain ⟨fd_cost, F_cost⟩ := D_cost.fn
  obtain ⟨f_flows, i_flows, D_flows⟩ := Y.d_flows
  obtain ⟨fd_flows, F_flows⟩ := D_flows.fn
  obtain ⟨f_loads, i_loads, D_loads⟩ := Y.d_loads
  obtain ⟨fd_loads, F_loads⟩ := D_loads.fn
  obtain ⟨f_borrowed, i_borrowed, D_borrowed⟩ := Y.d_borrowed
  obtain ⟨fd_borrowed, F_borrowed⟩ := D_borrowed.fn
  obtain ⟨f_spoiled, i_spoiled, D_spoiled⟩ := Y.d_spoiled
  obtain ⟨fd_spoiled, F_spoiled⟩ := D_spoiled.fn
  obtain ⟨f_try_way, i_try_way, D_try_way⟩ := Y.d_try_way
  obtain ⟨fd_try_way, F_try_way⟩ := D_try_way.fn
  obtain ⟨f_prices, i_prices, D_prices⟩ := Y.d_prices
  obtain ⟨fd_prices, F_prices⟩ := D_prices.fn
  obtain ⟨f_bound, i_bound, D_bound⟩ := Y.d_bound
  obtain ⟨fd_bound, F_bound⟩ := D_bound.fn
  obtain ⟨f_ifstep, i_ifstep, D_ifstep⟩ := Y.d_ifstep
  obtain ⟨fd_ifstep, F_ifstep⟩ := D_ifstep.fn
  obtain ⟨f_ifpit, i_ifpit, D_ifpit⟩ := Y.d_ifpit
  obtain ⟨fd_ifpit, F_ifpit⟩ := D_ifpit.fn
  obtain ⟨f_bestpit, i_bestpit, D_bestpit⟩ := Y.d_bestpit
  obtain ⟨fd_bestpit, F_bestpit⟩ := D_bestpit.fn
  obtain ⟨f_without, i_without, D_without⟩ := Y.d_without
  obtain ⟨fd_without, F_without⟩ := D_without.fn
  obtain ⟨f_farthest, i_farthest, D_farthest⟩ := Y.d_farthest
  obtain ⟨fd_farthest, F_farthest⟩ := D_farthest.fn
  obtain ⟨f_station, i_station, D_station⟩ := Y.d_station
  obtain ⟨fd_station, F_station⟩ := D_station.fn
  obtain ⟨f_sums, i_sums, D_sums⟩ := Y.d_sums
  obtain ⟨fd_sums, F_sums⟩ := D_sums.fn
  obtain ⟨f_state, i_state, D_state⟩ := Y.d_state
  obtain ⟨fd_state, F_state⟩ := D_state.fn
  obtain ⟨f_answer, D_answer⟩ := Y.d_answer
  obtain ⟨fd_answer, F_answer⟩ := D_answer.fn
  obtain ⟨f_answers, D_answers⟩ := Y.d_answers
  obtain ⟨fd_answers, F_answers⟩ := D_answers.fn
  have b_init := F_init.binds (ps := ["self"]) fun _ _ _ _ _ _ us hl => match us, hl with | [_], _ => rfl
  have b_lay := F_lay.binds (ps := ["self", "stations", "step_cost"]) fun _ _ _ _ _ _ us hl => match us, hl with | [_, _, _], _ => rfl
  have b_twin := F_twin.binds (ps := ["self"]) fun _ _ _ _ _ _ us hl => match us, hl with | [_], _ => rfl
  have b_surplus := F_surplus.binds (ps := ["self", "i"]) fun _ _ _ _ _ _ us hl => match us, hl with | [_, _], _ => rfl
  have b_has_way := F_has_way.binds (ps := ["self"]) fun _ _ _ _ _ _ us hl => match us, hl with | [_], _ => rfl
  have b_least_cost := F_least_cost.binds (ps := ["road"]) fun _ _ _ _ _ _ us hl => match us, hl with | [_], _ => rfl
  have b_cheapest_way := F_cheapest_way.binds (ps := ["road"]) fun _ _ _ _ _ _ us hl => match us, hl with | [_], _ => rfl
  have b_way_cost := F_way_cost.binds (ps := ["road", "way"]) fun _ _ _ _ _ _ us hl => match us, hl with | [_, _], _ => rfl
  have b_pit_amounts := F_pit_amounts.binds (ps := ["road", "way"]) fun _ _ _ _ _ _ us hl => match us, hl with | [_, _], _ => rfl
  have b_rest_costs := F_rest_costs.binds (ps := ["road"]) fun _ _ _ _ _ _ us hl => match us, hl with | [_], _ => rfl
  have b_with_hauling := F_with_hauling.binds (ps := ["table", "step_cost"]) fun _ _ _ _ _ _ us hl => match us, hl with | [_, _], _ => rfl
  have b_with_borrowing := F_with_borrowing.binds (ps := ["table", "price"]) fun _ _ _ _ _ _ us hl => match us, hl with | [_, _], _ => rfl
  have b_with_spoiling := F_with_spoiling.binds (ps := ["table", "price"]) fun _ _ _ _ _ _ us hl => match us, hl with | [_, _], _ => rfl
  have b_shifted := F_shifted.binds (ps := ["table", "surplus"]) fun _ _ _ _ _ _ us hl => match us, hl with | [_, _], _ => rfl
  have b_first_onward := F_first_onward.binds (ps := ["road", "i", "came", "tables"]) fun _ _ _ _ _ _ us hl => match us, hl with | [_, _, _, _], _ => rfl
  have b_onward_cost := F_onward_cost.binds (ps := ["road", "i", "there", "onward"]) fun _ _ _ _ _ _ us hl => match us, hl with | [_, _, _, _], _ => rfl
  have b_pit_cost := F_pit_cost.binds (ps := ["price", "amount"]) fun _ _ _ _ _ _ us hl => match us, hl with | [_, _], _ => rfl
  have b_loads_of := F_loads_of.binds (ps := ["road", "way"]) fun _ _ _ _ _ _ us hl => match us, hl with | [_, _], _ => rfl
  have b_is_allowed := F_is_allowed.binds (ps := ["road", "row"]) fun _ _ _ _ _ _ us hl => match us, hl with | [_, _], _ => rfl
  have b_suits_pits := F_suits_pits.binds (ps := ["road", "i", "price"]) fun _ _ _ _ _ _ us hl => match us, hl with | [_, _, _], _ => rfl
  have b_what_it_says := F_what_it_says.binds (ps := ["road", "row"]) fun _ _ _ _ _ _ us hl => match us, hl with | [_, _], _ => rfl
  have b_said_at := F_said_at.binds (ps := ["road", "i", "price"]) fun _ _ _ _ _ _ us hl => match us, hl with | [_, _, _], _ => rfl
  have b_row_told := F_row_told.binds (ps := ["road"]) fun _ _ _ _ _ _ us hl => match us, hl with | [_], _ => rfl
  have b_most_said := F_most_said.binds (ps := ["road"]) fun _ _ _ _ _ _ us hl => match us, hl with | [_], _ => rfl
  have b_said_or_barred := F_said_or_barred.binds (ps := ["road", "i", "price"]) fun _ _ _ _ _ _ us hl => match us, hl with | [_, _, _], _ => rfl
  have b_within_a_step := F_within_a_step.binds (ps := ["table", "k", "step_cost"]) fun _ _ _ _ _ _ us hl => match us, hl with | [_, _, _], _ => rfl
  have b_first_price := F_first_price.binds (ps := ["table"]) fun _ _ _ _ _ _ us hl => match us, hl with | [_], _ => rfl
  have b_nearness := F_nearness.binds (ps := ["price"]) fun _ _ _ _ _ _ us hl => match us, hl with | [_], _ => rfl
  have b_next_price := F_next_price.binds (ps := ["table", "before", "step_cost"]) fun _ _ _ _ _ _ us hl => match us, hl with | [_, _, _], _ => rfl
  have b_swap := F_swap.binds (ps := ["kept", "i", "x"]) fun _ _ _ _ _ _ us hl => match us, hl with | [_, _, _], _ => rfl
  have b_is_step := F_is_step.binds (ps := ["t"]) fun _ _ _ _ _ _ us hl => match us, hl with | [_], _ => rfl
  have b_refusal := F_refusal.binds (ps := ["road", "numbers", "most"]) fun _ _ _ _ _ _ us hl => match us, hl with | [_, _, _], _ => rfl
  have b_row_fits := F_row_fits.binds (ps := ["row", "size", "most"]) fun _ _ _ _ _ _ us hl => match us, hl with | [_, _, _], _ => rfl
  have b_lowered := F_lowered.binds (ps := ["row", "much"]) fun _ _ _ _ _ _ us hl => match us, hl with | [_, _], _ => rfl
  have b_put_earth := F_put_earth.binds (ps := ["road", "kept", "numbers"]) fun _ _ _ _ _ _ us hl => match us, hl with | [_, _, _], _ => rfl
  have b_put_pit := F_put_pit.binds (ps := ["road", "pits", "numbers"]) fun _ _ _ _ _ _ us hl => match us, hl with | [_, _, _], _ => rfl
  have b_take_pit := F_take_pit.binds (ps := ["road", "pits", "i"]) fun _ _ _ _ _ _ us hl => match us, hl with | [_, _, _], _ => rfl
  have b_count_pits := F_count_pits.binds (ps := ["pits"]) fun _ _ _ _ _ _ us hl => match us, hl with | [_], _ => rfl
  have b_cost_or_refusal := F_cost_or_refusal.binds (ps := ["road"]) fun _ _ _ _ _ _ us hl => match us, hl with | [_], _ => rfl
  have b_cost_with_pit := F_cost_with_pit.binds (ps := ["road", "i", "p"]) fun _ _ _ _ _ _ us hl => match us, hl with | [_, _, _], _ => rfl
  have b_in_all_and_each := F_in_all_and_each.binds (ps := ["amounts"]) fun _ _ _ _ _ _ us hl => match us, hl with | [_], _ => rfl
  have b_begin := F_begin.binds (ps := ["road", "numbers"]) fun _ _ _ _ _ _ us hl => match us, hl with | [_, _], _ => rfl
  have b_have := F_have.binds (ps := ["road", "numbers"]) fun _ _ _ _ _ _ us hl => match us, hl with | [_, _], _ => rfl
  have b_need := F_need.binds (ps := ["road", "numbers"]) fun _ _ _ _ _ _ us hl => match us, hl with | [_, _], _ => rfl
  have b_borrow := F_borrow.binds (ps := ["road", "numbers"]) fun _ _ _ _ _ _ us hl => match us, hl with | [_, _], _ => rfl
  have b_noborrow := F_noborrow.binds (ps := ["road", "numbers"]) fun _ _ _ _ _ _ us hl => match us, hl with | [_, _], _ => rfl
  have b_spoil := F_spoil.binds (ps := ["road", "numbers"]) fun _ _ _ _ _ _ us hl => match us, hl with | [_, _], _ => rfl
  have b_nospoil := F_nospoil.binds (ps := ["road", "numbers"]) fun _ _ _ _ _ _ us hl => match us, hl with | [_, _], _ => rfl
  have b_step := F_step.binds (ps := ["road", "numbers"]) fun _ _ _ _ _ _ us hl => match us, hl with | [_, _], _ => rfl
  have b_can := F_can.binds (ps := ["road", "numbers"]) fun _ _ _ _ _ _ us hl => match us, hl with | [_, _], _ => rfl
  have b_cost := F_cost.binds (ps := ["road", "numbers"]) fun _ _ _ _ _ _ us hl => match us, hl with | [_, _], _ => rfl
  have b_flows := F_flows.binds (ps := ["road", "numbers"]) fun _ _ _ _ _ _ us hl => match us, hl with | [_, _], _ => rfl
  have b_loads := F_loads.binds (ps := ["road", "numbers"]) fun _ _ _ _ _ _ us hl => match us, hl with | [_, _], _ => rfl
  have b_borrowed := F_borrowed.binds (ps := ["road", "numbers"]) fun _ _ _ _ _ _ us hl => match us, hl with | [_, _], _ => rfl
  have b_spoiled := F_spoiled.binds (ps := ["road", "numbers"]) fun _ _ _ _ _ _ us hl => match us, hl with | [_, _], _ => rfl
  have b_try_way := F_try_way.binds (ps := ["road", "row"]) fun _ _ _ _ _ _ us hl => match us, hl with | [_, _], _ => rfl
  have b_prices := F_prices.binds (ps := ["road", "numbers"]) fun _ _ _ _ _ _ us hl => match us, hl with | [_, _], _ => rfl
  have b_bound := F_bound.binds (ps := ["road", "row"]) fun _ _ _ _ _ _ us hl => match us, hl with | [_, _], _ => rfl
  have b_ifstep := F_ifstep.binds (ps := ["road", "numbers"]) fun _ _ _ _ _ _ us hl => match us, hl with | [_, _], _ => rfl
  have b_ifpit := F_ifpit.binds (ps := ["road", "numbers"]) fun _ _ _ _ _ _ us hl => match us, hl with | [_, _], _ => rfl
  have b_bestpit := F_bestpit.binds (ps := ["road", "numbers"]) fun _ _ _ _ _ _ us hl => match us, hl with | [_, _], _ => rfl
  have b_without := F_without.binds (ps := ["road", "numbers"]) fun _ _ _ _ _ _ us hl => match us, hl with | [_, _], _ => rfl
  have b_farthest := F_farthest.binds (ps := ["road", "numbers"]) fun _ _ _ _ _ _ us hl => match us, hl with | [_, _], _ => rfl
  have b_station := F_station.binds (ps := ["road", "numbers"]) fun _ _ _ _ _ _ us hl => match us, hl with | [_, _], _ => rfl
  have b_sums := F_sums.binds (ps := ["road", "numbers"]) fun _ _ _ _ _ _ us hl => match us, hl with | [_, _], _ => rfl
  have b_state := F_state.binds (ps := ["road", "numbers"]) fun _ _ _ _ _ _ us hl => match us, hl with | [_, _], _ => rfl
  have b_answer := F_answer.binds (ps := ["road", "number", "numbers"]) fun _ _ _ _ _ _ us hl => match us, hl with | [_, _, _], _ => rfl
  have b_answers := F_answers.binds (ps := ["calls"]) fun _ _ _ _ _ _ us hl => match us, hl with | [_], _ => rfl
  have e := hfa.symm.trans (PySem.W.mg_of X G D_answers.ns)
  cases e
  refine ⟨fd_answers, fun s us hu => ?_, fun base _ _ => ?_⟩
  · obtain ⟨oc, od, kV, doc, pm, an, cdv, ct', osl, rfl, _, _⟩ := F_answers.ex
    exact match us, hu with | [_], _ => .of_eq rfl
  ·
    have o_with_hauling := ok_with_hauling (P := P) (w := w) (mg := mg) (base := base) F_with_hauling T
    have c_with_hauling : Cal P w K mg base "with_hauling" 1 ["table", "step_cost"] _ := ⟨f_with_hauling, fd_with_hauling, o_with_hauling, PySem.W.mg_of X G D_with_hauling.ns, F_with_hauling.kp, b_with_hauling⟩
    have o_shifted := ok_shifted (P := P) (w := w) (mg := mg) (base := base) F_shifted T
    have c_shifted : Cal P w K mg base "shifted" 1 ["table", "surplus"] _ := ⟨f_shifted, fd_shifted, o_shifted, PySem.W.mg_of X G D_shifted.ns, F_shifted.kp, b_shifted⟩
    have o_with_borrowing := ok_with_borrowing (P := P) (w := w) (mg := mg) (base := base) F_with_borrowing T
    have c_with_borrowing : Cal P w K mg base "with_borrowing" 1 ["table", "price"] _ := ⟨f_with_borrowing, fd_with_borrowing, o_with_borrowing, PySem.W.mg_of X G D_with_borrowing.ns, F_with_borrowing.kp, b_with_borrowing⟩
    have o_with_spoiling := ok_with_spoiling (P := P) (w := w) (mg := mg) (base := base) F_with_spoiling T
    have c_with_spoiling : Cal P w K mg base "with_spoiling" 1 ["table", "price"] _ := ⟨f_with_spoiling, fd_with_spoiling, o_with_spoiling, PySem.W.mg_of X G D_with_spoiling.ns, F_with_spoiling.kp, b_with_spoiling⟩
    have o_surplus := ok_surplus (P := P) (w := w) (mg := mg) (base := base) F_surplus T
    have c_surplus : MCal P w K mg base C "surplus" 1 ["self", "i"] _ := ⟨f_surplus, fd_surplus, o_surplus, Y.cl, M_surplus.at_, b_surplus⟩
    have o_pit_cost := ok_pit_cost (P := P) (w := w) (mg := mg) (base := base) F_pit_cost T
    have c_pit_cost : Cal P w K mg base "pit_cost" 1 ["price", "amount"] _ := ⟨f_pit_cost, fd_pit_cost, o_pit_cost, PySem.W.mg_of X G D_pit_cost.ns, F_pit_cost.kp, b_pit_cost⟩
    have o_has_way := ok_has_way (P := P) (w := w) (mg := mg) (base := base) F_has_way T
    have c_has_way : MCal P w K mg base C "has_way" 1 ["self"] _ := ⟨f_has_way, fd_has_way, o_has_way, Y.cl, M_has_way.at_, b_has_way⟩
    have o_swap := ok_swap (P := P) (w := w) (mg := mg) (base := base) F_swap
    have c_swap : Cal P w K mg base "swap" 1 ["kept", "i", "x"] _ := ⟨f_swap, fd_swap, o_swap, PySem.W.mg_of X G D_swap.ns, F_swap.kp, b_swap⟩
    have o_is_step := ok_is_step (P := P) (w := w) (mg := mg) (base := base) F_is_step T
    have c_is_step : Cal P w K mg base "is_step" 1 ["t"] _ := ⟨f_is_step, fd_is_step, o_is_step, PySem.W.mg_of X G D_is_step.ns, F_is_step.kp, b_is_step⟩
    have o_refusal := ok_refusal (P := P) (w := w) (mg := mg) (base := base) F_refusal T
    have c_refusal : Cal P w K mg base "refusal" 1 ["road", "numbers", "most"] _ := ⟨f_refusal, fd_refusal, o_refusal, PySem.W.mg_of X G D_refusal.ns, F_refusal.kp, b_refusal⟩
    have o_lay := ok_lay (P := P) (w := w) (mg := mg) (base := base) F_lay T
    have c_lay : MCal P w K mg base C "lay" 1 ["self", "stations", "step_cost"] _ := ⟨f_lay, fd_lay, o_lay, Y.cl, M_lay.at_, b_lay⟩
    have o_in_all_and_each := ok_in_all_and_each (P := P) (w := w) (mg := mg) (base := base) F_in_all_and_each T
    have c_in_all_and_each : Cal P w K mg base "in_all_and_each" 1 ["amounts"] _ := ⟨f_in_all_and_each, fd_in_all_and_each, o_in_all_and_each, PySem.W.mg_of X G D_in_all_and_each.ns, F_in_all_and_each.kp, b_in_all_and_each⟩
    have o_station := ok_station (P := P) (w := w) (mg := mg) (base := base) F_station T
    have c_station : Cal P w K mg base "station" 5 ["road", "numbers"] _ := ⟨f_station, fd_station, o_station, PySem.W.mg_of X G D_station.ns, F_station.kp, b_station⟩
    have o_sums := ok_sums (P := P) (w := w) (mg := mg) (base := base) F_sums T
    have c_sums : Cal P w K mg base "sums" 5 ["road", "numbers"] _ := ⟨f_sums, fd_sums, o_sums, PySem.W.mg_of X G D_sums.ns, F_sums.kp, b_sums⟩
    have o_count_pits := ok_count_pits (P := P) (w := w) (mg := mg) (base := base) F_count_pits T
    have c_count_pits : Cal P w K mg base "count_pits" 1 ["pits"] _ := ⟨f_count_pits, fd_count_pits, o_count_pits, PySem.W.mg_of X G D_count_pits.ns, F_count_pits.kp, b_count_pits⟩
    have o_row_fits := ok_row_fits (P := P) (w := w) (mg := mg) (base := base) F_row_fits T
    have c_row_fits : Cal P w K mg base "row_fits" 1 ["row", "size", "most"] _ := ⟨f_row_fits, fd_row_fits, o_row_fits, PySem.W.mg_of X G D_row_fits.ns, F_row_fits.kp, b_row_fits⟩
    have o_lowered := ok_lowered (P := P) (w := w) (mg := mg) (base := base) F_lowered T
    have c_lowered : Cal P w K mg base "lowered" 1 ["row", "much"] _ := ⟨f_lowered, fd_lowered, o_lowered, PySem.W.mg_of X G D_lowered.ns, F_lowered.kp, b_lowered⟩
    have o_suits_pits := ok_suits_pits (P := P) (w := w) (mg := mg) (base := base) F_suits_pits T
    have c_suits_pits : Cal P w K mg base "suits_pits" 1 ["road", "i", "price"] _ := ⟨f_suits_pits, fd_suits_pits, o_suits_pits, PySem.W.mg_of X G D_suits_pits.ns, F_suits_pits.kp, b_suits_pits⟩
    have o_within_a_step := ok_within_a_step (P := P) (w := w) (mg := mg) (base := base) F_within_a_step T
    have c_within_a_step : Cal P w K mg base "within_a_step" 1 ["table", "k", "step_cost"] _ := ⟨f_within_a_step, fd_within_a_step, o_within_a_step, PySem.W.mg_of X G D_within_a_step.ns, F_within_a_step.kp, b_within_a_step⟩
    have o_nearness := ok_nearness (P := P) (w := w) (mg := mg) (base := base) F_nearness T
    have c_nearness : Cal P w K mg base "nearness" 1 ["price"] _ := ⟨f_nearness, fd_nearness, o_nearness, PySem.W.mg_of X G D_nearness.ns, F_nearness.kp, b_nearness⟩
    have o_onward_cost := ok_onward_cost (P := P) (w := w) (mg := mg) (base := base) F_onward_cost T ⟨c_pit_cost⟩
    have c_onward_cost : Cal P w K mg base "onward_cost" 2 ["road", "i", "there", "onward"] _ := ⟨f_onward_cost, fd_onward_cost, o_onward_cost, PySem.W.mg_of X G D_onward_cost.ns, F_onward_cost.kp, b_onward_cost⟩
    have o_rest_costs := ok_rest_costs (P := P) (w := w) (mg := mg) (base := base) F_rest_costs T ⟨c_with_hauling, c_with_borrowing, c_with_spoiling, c_shifted⟩ ⟨c_surplus⟩
    have c_rest_costs : Cal P w K mg base "rest_costs" 2 ["road"] _ := ⟨f_rest_costs, fd_rest_costs, o_rest_costs, PySem.W.mg_of X G D_rest_costs.ns, F_rest_costs.kp, b_rest_costs⟩
    have o_pit_amounts := ok_pit_amounts (P := P) (w := w) (mg := mg) (base := base) F_pit_amounts T ⟨c_surplus⟩
    have c_pit_amounts : Cal P w K mg base "pit_amounts" 2 ["road", "way"] _ := ⟨f_pit_amounts, fd_pit_amounts, o_pit_amounts, PySem.W.mg_of X G D_pit_amounts.ns, F_pit_amounts.kp, b_pit_amounts⟩
    have o_put_earth := ok_put_earth (P := P) (w := w) (mg := mg) (base := base) F_put_earth T ⟨c_swap, c_refusal⟩
    have c_put_earth : Cal P w K mg base "put_earth" 2 ["road", "kept", "numbers"] _ := ⟨f_put_earth, fd_put_earth, o_put_earth, PySem.W.mg_of X G D_put_earth.ns, F_put_earth.kp, b_put_earth⟩
    have o_put_pit := ok_put_pit (P := P) (w := w) (mg := mg) (base := base) F_put_pit T ⟨c_swap, c_refusal⟩
    have c_put_pit : Cal P w K mg base "put_pit" 2 ["road", "pits", "numbers"] _ := ⟨f_put_pit, fd_put_pit, o_put_pit, PySem.W.mg_of X G D_put_pit.ns, F_put_pit.kp, b_put_pit⟩
    have o_take_pit := ok_take_pit (P := P) (w := w) (mg := mg) (base := base) F_take_pit T ⟨c_swap⟩
    have c_take_pit : Cal P w K mg base "take_pit" 2 ["road", "pits", "i"] _ := ⟨f_take_pit, fd_take_pit, o_take_pit, PySem.W.mg_of X G D_take_pit.ns, F_take_pit.kp, b_take_pit⟩
    have o_init := ok_init (P := P) (w := w) (mg := mg) (base := base) F_init ⟨c_lay⟩
    have c_init : Mak P w K mg base "Road" C 2 ["self"] _ := ⟨f_init, fd_init, ⟨Y.makes, M_init.at_.at_, M_init.at_.fn, Y.kc⟩, o_init, PySem.W.mg_of X G Y.road, b_init⟩
    have o_begin := ok_begin (P := P) (w := w) (mg := mg) (base := base) F_begin T ⟨c_is_step⟩ ⟨c_lay⟩
    have c_begin : Cal P w K mg base "begin" 3 ["road", "numbers"] _ := ⟨f_begin, fd_begin, o_begin, PySem.W.mg_of X G D_begin.ns, F_begin.kp, b_begin⟩
    have o_can := ok_can (P := P) (w := w) (mg := mg) (base := base) F_can T ⟨c_has_way⟩
    have c_can : Cal P w K mg base "can" 5 ["road", "numbers"] _ := ⟨f_can, fd_can, o_can, PySem.W.mg_of X G D_can.ns, F_can.kp, b_can⟩
    have o_state := ok_state (P := P) (w := w) (mg := mg) (base := base) F_state T ⟨c_count_pits⟩
    have c_state : Cal P w K mg base "state" 5 ["road", "numbers"] _ := ⟨f_state, fd_state, o_state, PySem.W.mg_of X G D_state.ns, F_state.kp, b_state⟩
    have o_said_at := ok_said_at (P := P) (w := w) (mg := mg) (base := base) F_said_at ⟨c_surplus⟩
    have c_said_at : Cal P w K mg base "said_at" 2 ["road", "i", "price"] _ := ⟨f_said_at, fd_said_at, o_said_at, PySem.W.mg_of X G D_said_at.ns, F_said_at.kp, b_said_at⟩
    have o_first_price := ok_first_price (P := P) (w := w) (mg := mg) (base := base) F_first_price T ⟨c_nearness⟩
    have c_first_price : Cal P w K mg base "first_price" 3 ["table"] _ := ⟨f_first_price, fd_first_price, o_first_price, PySem.W.mg_of X G D_first_price.ns, F_first_price.kp, b_first_price⟩
    have o_least_cost := ok_least_cost (P := P) (w := w) (mg := mg) (base := base) F_least_cost T ⟨c_rest_costs, c_onward_cost⟩
    have c_least_cost : Cal P w K mg base "least_cost" 3 ["road"] _ := ⟨f_least_cost, fd_least_cost, o_least_cost, PySem.W.mg_of X G D_least_cost.ns, F_least_cost.kp, b_least_cost⟩
    have o_first_onward := ok_first_onward (P := P) (w := w) (mg := mg) (base := base) F_first_onward T ⟨c_rest_costs, c_onward_cost⟩ ⟨c_surplus⟩
    have c_first_onward : Cal P w K mg base "first_onward" 3 ["road", "i", "came", "tables"] _ := ⟨f_first_onward, fd_first_onward, o_first_onward, PySem.W.mg_of X G D_first_onward.ns, F_first_onward.kp, b_first_onward⟩
    have o_loads_of := ok_loads_of (P := P) (w := w) (mg := mg) (base := base) F_loads_of T ⟨c_pit_amounts⟩
    have c_loads_of : Cal P w K mg base "loads_of" 3 ["road", "way"] _ := ⟨f_loads_of, fd_loads_of, o_loads_of, PySem.W.mg_of X G D_loads_of.ns, F_loads_of.kp, b_loads_of⟩
    have o_have := ok_have (P := P) (w := w) (mg := mg) (base := base) F_have T ⟨c_put_earth, c_put_pit, c_take_pit, c_is_step⟩
    have c_have : Cal P w K mg base "have" 3 ["road", "numbers"] _ := ⟨f_have, fd_have, o_have, PySem.W.mg_of X G D_have.ns, F_have.kp, b_have⟩
    have o_need := ok_need (P := P) (w := w) (mg := mg) (base := base) F_need T ⟨c_put_earth, c_put_pit, c_take_pit, c_is_step⟩
    have c_need : Cal P w K mg base "need" 3 ["road", "numbers"] _ := ⟨f_need, fd_need, o_need, PySem.W.mg_of X G D_need.ns, F_need.kp, b_need⟩
    have o_borrow := ok_borrow (P := P) (w := w) (mg := mg) (base := base) F_borrow T ⟨c_put_earth, c_put_pit, c_take_pit, c_is_step⟩
    have c_borrow : Cal P w K mg base "borrow" 3 ["road", "numbers"] _ := ⟨f_borrow, fd_borrow, o_borrow, PySem.W.mg_of X G D_borrow.ns, F_borrow.kp, b_borrow⟩
    have o_spoil := ok_spoil (P := P) (w := w) (mg := mg) (base := base) F_spoil T ⟨c_put_earth, c_put_pit, c_take_pit, c_is_step⟩
    have c_spoil : Cal P w K mg base "spoil" 3 ["road", "numbers"] _ := ⟨f_spoil, fd_spoil, o_spoil, PySem.W.mg_of X G D_spoil.ns, F_spoil.kp, b_spoil⟩
    have o_noborrow := ok_noborrow (P := P) (w := w) (mg := mg) (base := base) F_noborrow T ⟨c_put_earth, c_put_pit, c_take_pit, c_is_step⟩
    have c_noborrow : Cal P w K mg base "noborrow" 3 ["road", "numbers"] _ := ⟨f_noborrow, fd_noborrow, o_noborrow, PySem.W.mg_of X G D_noborrow.ns, F_noborrow.kp, b_noborrow⟩
    have o_nospoil := ok_nospoil (P := P) (w := w) (mg := mg) (base := base) F_nospoil T ⟨c_put_earth, c_put_pit, c_take_pit, c_is_step⟩
    have c_nospoil : Cal P w K mg base "nospoil" 3 ["road", "numbers"] _ := ⟨f_nospoil, fd_nospoil, o_nospoil, PySem.W.mg_of X G D_nospoil.ns, F_nospoil.kp, b_nospoil⟩
    have o_step := ok_step (P := P) (w := w) (mg := mg) (base := base) F_step T ⟨c_put_earth, c_put_pit, c_take_pit, c_is_step⟩
    have c_step : Cal P w K mg base "step" 3 ["road", "numbers"] _ := ⟨f_step, fd_step, o_step, PySem.W.mg_of X G D_step.ns, F_step.kp, b_step⟩
    have o_twin := ok_twin (P := P) (w := w) (mg := mg) (base := base) F_twin T ⟨c_init⟩
    have c_twin : MCal P w K mg base C "twin" 4 ["self"] _ := ⟨f_twin, fd_twin, o_twin, Y.cl, M_twin.at_, b_twin⟩
    have o_way_cost := ok_way_cost (P := P) (w := w) (mg := mg) (base := base) F_way_cost T ⟨c_surplus⟩ ⟨c_onward_cost⟩
    have c_way_cost : Cal P w K mg base "way_cost" 3 ["road", "way"] _ := ⟨f_way_cost, fd_way_cost, o_way_cost, PySem.W.mg_of X G D_way_cost.ns, F_way_cost.kp, b_way_cost⟩
    have o_what_it_says := ok_what_it_says (P := P) (w := w) (mg := mg) (base := base) F_what_it_says T ⟨c_suits_pits, c_said_at⟩
    have c_what_it_says : Cal P w K mg base "what_it_says" 3 ["road", "row"] _ := ⟨f_what_it_says, fd_what_it_says, o_what_it_says, PySem.W.mg_of X G D_what_it_says.ns, F_what_it_says.kp, b_what_it_says⟩
    have o_is_allowed := ok_is_allowed (P := P) (w := w) (mg := mg) (base := base) F_is_allowed T ⟨c_suits_pits, c_said_at⟩
    have c_is_allowed : Cal P w K mg base "is_allowed" 3 ["road", "row"] _ := ⟨f_is_allowed, fd_is_allowed, o_is_allowed, PySem.W.mg_of X G D_is_allowed.ns, F_is_allowed.kp, b_is_allowed⟩
    have o_said_or_barred := ok_said_or_barred (P := P) (w := w) (mg := mg) (base := base) F_said_or_barred T ⟨c_suits_pits, c_said_at⟩
    have c_said_or_barred : Cal P w K mg base "said_or_barred" 3 ["road", "i", "price"] _ := ⟨f_said_or_barred, fd_said_or_barred, o_said_or_barred, PySem.W.mg_of X G D_said_or_barred.ns, F_said_or_barred.kp, b_said_or_barred⟩
    have o_cheapest_way := ok_cheapest_way (P := P) (w := w) (mg := mg) (base := base) F_cheapest_way T ⟨c_rest_costs, c_first_onward⟩
    have c_cheapest_way : Cal P w K mg base "cheapest_way" 4 ["road"] _ := ⟨f_cheapest_way, fd_cheapest_way, o_cheapest_way, PySem.W.mg_of X G D_cheapest_way.ns, F_cheapest_way.kp, b_cheapest_way⟩
    have o_cost_or_refusal := ok_cost_or_refusal (P := P) (w := w) (mg := mg) (base := base) F_cost_or_refusal T ⟨c_has_way⟩ ⟨c_least_cost⟩
    have c_cost_or_refusal : Cal P w K mg base "cost_or_refusal" 4 ["road"] _ := ⟨f_cost_or_refusal, fd_cost_or_refusal, o_cost_or_refusal, PySem.W.mg_of X G D_cost_or_refusal.ns, F_cost_or_refusal.kp, b_cost_or_refusal⟩
    have o_try_way := ok_try_way (P := P) (w := w) (mg := mg) (base := base) F_try_way T ⟨c_row_fits, c_lowered, c_way_cost⟩
    have c_try_way : Cal P w K mg base "try_way" 5 ["road", "row"] _ := ⟨f_try_way, fd_try_way, o_try_way, PySem.W.mg_of X G D_try_way.ns, F_try_way.kp, b_try_way⟩
    have o_bound := ok_bound (P := P) (w := w) (mg := mg) (base := base) F_bound T ⟨c_row_fits, c_lowered, c_is_allowed, c_what_it_says⟩
    have c_bound : Cal P w K mg base "bound" 5 ["road", "row"] _ := ⟨f_bound, fd_bound, o_bound, PySem.W.mg_of X G D_bound.ns, F_bound.kp, b_bound⟩
    have o_next_price := ok_next_price (P := P) (w := w) (mg := mg) (base := base) F_next_price T ⟨c_within_a_step, c_said_or_barred⟩
    have c_next_price : Cal P w K mg base "next_price" 2 ["table", "before", "step_cost"] _ := ⟨f_next_price, fd_next_price, o_next_price, PySem.W.mg_of X G D_next_price.ns, F_next_price.kp, b_next_price⟩
    have o_most_said := ok_most_said (P := P) (w := w) (mg := mg) (base := base) F_most_said T ⟨c_within_a_step, c_said_or_barred⟩
    have c_most_said : Cal P w K mg base "most_said" 4 ["road"] _ := ⟨f_most_said, fd_most_said, o_most_said, PySem.W.mg_of X G D_most_said.ns, F_most_said.kp, b_most_said⟩
    have o_cost := ok_cost (P := P) (w := w) (mg := mg) (base := base) F_cost ⟨c_cost_or_refusal⟩
    have c_cost : Cal P w K mg base "cost" 5 ["road", "numbers"] _ := ⟨f_cost, fd_cost, o_cost, PySem.W.mg_of X G D_cost.ns, F_cost.kp, b_cost⟩
    have o_flows := ok_flows (P := P) (w := w) (mg := mg) (base := base) F_flows T ⟨c_has_way⟩ ⟨c_cheapest_way, c_pit_amounts, c_loads_of⟩
    have c_flows : Cal P w K mg base "flows" 5 ["road", "numbers"] _ := ⟨f_flows, fd_flows, o_flows, PySem.W.mg_of X G D_flows.ns, F_flows.kp, b_flows⟩
    have o_borrowed := ok_borrowed (P := P) (w := w) (mg := mg) (base := base) F_borrowed T ⟨c_has_way⟩ ⟨c_cheapest_way, c_pit_amounts, c_in_all_and_each⟩
    have c_borrowed : Cal P w K mg base "borrowed" 5 ["road", "numbers"] _ := ⟨f_borrowed, fd_borrowed, o_borrowed, PySem.W.mg_of X G D_borrowed.ns, F_borrowed.kp, b_borrowed⟩
    have o_spoiled := ok_spoiled (P := P) (w := w) (mg := mg) (base := base) F_spoiled T ⟨c_has_way⟩ ⟨c_cheapest_way, c_pit_amounts, c_in_all_and_each⟩
    have c_spoiled : Cal P w K mg base "spoiled" 5 ["road", "numbers"] _ := ⟨f_spoiled, fd_spoiled, o_spoiled, PySem.W.mg_of X G D_spoiled.ns, F_spoiled.kp, b_spoiled⟩
    have o_cost_with_pit := ok_cost_with_pit (P := P) (w := w) (mg := mg) (base := base) F_cost_with_pit T ⟨c_twin⟩ ⟨c_cost_or_refusal⟩
    have c_cost_with_pit : Cal P w K mg base "cost_with_pit" 5 ["road", "i", "p"] _ := ⟨f_cost_with_pit, fd_cost_with_pit, o_cost_with_pit, PySem.W.mg_of X G D_cost_with_pit.ns, F_cost_with_pit.kp, b_cost_with_pit⟩
    have o_loads := ok_loads (P := P) (w := w) (mg := mg) (base := base) F_loads T ⟨c_has_way⟩ ⟨c_cheapest_way, c_pit_amounts, c_loads_of⟩
    have c_loads : Cal P w K mg base "loads" 5 ["road", "numbers"] _ := ⟨f_loads, fd_loads, o_loads, PySem.W.mg_of X G D_loads.ns, F_loads.kp, b_loads⟩
    have o_farthest := ok_farthest (P := P) (w := w) (mg := mg) (base := base) F_farthest T ⟨c_has_way⟩ ⟨c_cheapest_way, c_pit_amounts, c_loads_of⟩
    have c_farthest : Cal P w K mg base "farthest" 5 ["road", "numbers"] _ := ⟨f_farthest, fd_farthest, o_farthest, PySem.W.mg_of X G D_farthest.ns, F_farthest.kp, b_farthest⟩
    have o_row_told := ok_row_told (P := P) (w := w) (mg := mg) (base := base) F_row_told T ⟨c_most_said, c_first_price, c_next_price⟩
    have c_row_told : Cal P w K mg base "row_told" 5 ["road"] _ := ⟨f_row_told, fd_row_told, o_row_told, PySem.W.mg_of X G D_row_told.ns, F_row_told.kp, b_row_told⟩
    have o_ifstep := ok_ifstep (P := P) (w := w) (mg := mg) (base := base) F_ifstep T ⟨c_twin⟩ ⟨c_cost_or_refusal, c_cost_with_pit, c_refusal, c_is_step⟩
    have c_ifstep : Cal P w K mg base "ifstep" 6 ["road", "numbers"] _ := ⟨f_ifstep, fd_ifstep, o_ifstep, PySem.W.mg_of X G D_ifstep.ns, F_ifstep.kp, b_ifstep⟩
    have o_ifpit := ok_ifpit (P := P) (w := w) (mg := mg) (base := base) F_ifpit T ⟨c_cost_or_refusal, c_cost_with_pit, c_refusal, c_is_step⟩
    have c_ifpit : Cal P w K mg base "ifpit" 6 ["road", "numbers"] _ := ⟨f_ifpit, fd_ifpit, o_ifpit, PySem.W.mg_of X G D_ifpit.ns, F_ifpit.kp, b_ifpit⟩
    have o_without := ok_without (P := P) (w := w) (mg := mg) (base := base) F_without T ⟨c_twin⟩ ⟨c_cost_or_refusal, c_cost_with_pit, c_refusal, c_is_step⟩
    have c_without : Cal P w K mg base "without" 6 ["road", "numbers"] _ := ⟨f_without, fd_without, o_without, PySem.W.mg_of X G D_without.ns, F_without.kp, b_without⟩
    have o_bestpit := ok_bestpit (P := P) (w := w) (mg := mg) (base := base) F_bestpit T ⟨c_cost_or_refusal, c_cost_with_pit, c_refusal, c_is_step⟩
    have c_bestpit : Cal P w K mg base "bestpit" 6 ["road", "numbers"] _ := ⟨f_bestpit, fd_bestpit, o_bestpit, PySem.W.mg_of X G D_bestpit.ns, F_bestpit.kp, b_bestpit⟩
    have o_prices := ok_prices (P := P) (w := w) (mg := mg) (base := base) F_prices T ⟨c_has_way⟩ ⟨c_row_told⟩
    have c_prices : Cal P w K mg base "prices" 6 ["road", "numbers"] _ := ⟨f_prices, fd_prices, o_prices, PySem.W.mg_of X G D_prices.ns, F_prices.kp, b_prices⟩
    have TA : TxtA P w K mg base C ct hm wr fs := ⟨T, PySem.W.mg_of X G Y.calls.ns, PySem.W.mg_of X G Y.hows.choose_spec.1.ns, PySem.W.mg_of X G Y.rows.choose_spec.1.ns, fun H => Y.calls.sq (vals_refs fs) H, fun H => Y.hows.choose_spec.1.sq Y.hows.choose_spec.2.vals H, fun H => Y.rows.choose_spec.1.sq Y.rows.choose_spec.2.vals H, fun i hi => match i, hi with
        | 0, _ => ⟨f_begin, fd_begin, _, i_begin, o_begin.mono (by decide), F_begin.kp, b_begin⟩
        | 1, _ => ⟨f_have, fd_have, _, i_have, o_have.mono (by decide), F_have.kp, b_have⟩
        | 2, _ => ⟨f_need, fd_need, _, i_need, o_need.mono (by decide), F_need.kp, b_need⟩
        | 3, _ => ⟨f_borrow, fd_borrow, _, i_borrow, o_borrow.mono (by decide), F_borrow.kp, b_borrow⟩
        | 4, _ => ⟨f_noborrow, fd_noborrow, _, i_noborrow, o_noborrow.mono (by decide), F_noborrow.kp, b_noborrow⟩
        | 5, _ => ⟨f_spoil, fd_spoil, _, i_spoil, o_spoil.mono (by decide), F_spoil.kp, b_spoil⟩
        | 6, _ => ⟨f_nospoil, fd_nospoil, _, i_nospoil, o_nospoil.mono (by decide), F_nospoil.kp, b_nospoil⟩
        | 7, _ => ⟨f_step, fd_step, _, i_step, o_step.mono (by decide), F_step.kp, b_step⟩
        | 8, _ => ⟨f_can, fd_can, _, i_can, o_can.mono (by decide), F_can.kp, b_can⟩
        | 9, _ => ⟨f_cost, fd_cost, _, i_cost, o_cost.mono (by decide), F_cost.kp, b_cost⟩
        | 10, _ => ⟨f_flows, fd_flows, _, i_flows, o_flows.mono (by decide), F_flows.kp, b_flows⟩
        | 11, _ => ⟨f_loads, fd_loads, _, i_loads, o_loads.mono (by decide), F_loads.kp, b_loads⟩
        | 12, _ => ⟨f_borrowed, fd_borrowed, _, i_borrowed, o_borrowed.mono (by decide), F_borrowed.kp, b_borrowed⟩
        | 13, _ => ⟨f_spoiled, fd_spoiled, _, i_spoiled, o_spoiled.mono (by decide), F_spoiled.kp, b_spoiled⟩
        | 14, _ => ⟨f_try_way, fd_try_way, _, i_try_way, o_try_way.mono (by decide), F_try_way.kp, b_try_way⟩
        | 15, _ => ⟨f_prices, fd_prices, _, i_prices, o_prices.mono (by decide), F_prices.kp, b_prices⟩
        | 16, _ => ⟨f_bound, fd_bound, _, i_bound, o_bound.mono (by decide), F_bound.kp, b_bound⟩
        | 17, _ => ⟨f_ifstep, fd_ifstep, _, i_ifstep, o_ifstep.mono (by decide), F_ifstep.kp, b_ifstep⟩
        | 18, _ => ⟨f_ifpit, fd_ifpit, _, i_ifpit, o_ifpit.mono (by decide), F_ifpit.kp, b_ifpit⟩
        | 19, _ => ⟨f_bestpit, fd_bestpit, _, i_bestpit, o_bestpit.mono (by decide), F_bestpit.kp, b_bestpit⟩
        | 20, _ => ⟨f_without, fd_without, _, i_without, o_without.mono (by decide), F_without.kp, b_without⟩
        | 21, _ => ⟨f_farthest, fd_farthest, _, i_farthest, o_farthest.mono (by decide), F_farthest.kp, b_farthest⟩
        | 22, _ => ⟨f_station, fd_station, _, i_station, o_station.mono (by decide), F_station.kp, b_station⟩
        | 23, _ => ⟨f_sums, fd_sums, _, i_sums, o_sums.mono (by decide), F_sums.kp, b_sums⟩
        | 24, _ => ⟨f_state, fd_state, _, i_state, o_state.mono (by decide), F_state.kp, b_state⟩
        | n + 25, h => absurd h (by omega)⟩
    have o_answer := ok_answer (P := P) (w := w) (mg := mg) (base := base) F_answer TA
    have c_answer : Cal P w K mg base "answer" 7 ["road", "number", "numbers"] _ := ⟨f_answer, fd_answer, o_answer, PySem.W.mg_of X G D_answer.ns, F_answer.kp, b_answer⟩
    exact ok_answers F_answers TA ⟨c_init⟩ ⟨c_answer⟩
theorem all_mk25 {P : Program} {w : World} {K : PySem.W.Frag} {h : Heap} {mg : Str → Option Value} {fa C ct hm wr g0 g1 g2 g3 g4 g5 g6 g7 g8 g9 g10 g11 g12 g13 g14 g15 g16 g17 g18 g19 g20 g21 g22 g23 g24 : Addr} (X : K.In h) (G : h.Ns mainGlobals mg) (hfa : mg "answers" = some (.ref fa)) (Y : Facts K C ct hm wr [g0, g1, g2, g3, g4, g5, g6, g7, g8, g9, g10, g11, g12, g13, g14, g15, g16, g17, g18, g19, g20, g21, g22, g23, g24]) :
    ∃ fd : FuncData, (∀ (s : Shared) (us : List Value), us.length = (["calls"] : List Str).length → BindsTo s fd ⟨us, []⟩ ((["calls"] : List Str).zip us)) ∧ ∀ base : Heap, K.In base → base.Ns mainGlobals mg → FnOk P w K mg base CX0 8 fa fd ["calls"] (spAns K) := all_mk X G hfa Y
end Hl
end
open PySem PySem.W PyProof.Rows
local macro_rules | `(tactic| walk_at "hdef") => `(tactic| (refine' Hl.defEx ?a ?l ?c ?k; (case a => k_is); (case l => k_is); (case c => k_is); (case k => k_is)))
local macro_rules | `(tactic| walk_at "hcall") => `(tactic| (refine' Hl.callEx ?a ?e ?l ?c ?k; (case a => k_is); (case e => rfl); (case l => k_is); (case c => k_is); (case k => k_is)))
local macro_rules | `(tactic| walk_at "hmeth") => `(tactic| (refine' Hl.methEx ?a ?i ?l ?c ?k; (case a => k_is); (case i => k_is); (case l => k_is); (case c => k_is); (case k => k_is)))
local macro_rules | `(tactic| walk_at "hint") => `(tactic| (refine' Hl.intEx ?a; (case a => k_is)))
theorem PySem.W.Fast.tw12910198490685606091 : True := trivial
theorem PySem.W.Fast.tw16285725592806281822 : True := trivial
theorem PySem.W.Fast.tw8397490730908815720 : True := trivial
theorem PySem.W.Fast.tw13943630526369910692 : True := trivial
theorem PySem.W.Fast.tw16782922548850220450 : True := trivial
theorem PySem.W.Fast.tw2760358840533460403 : True := trivial
theorem PySem.W.Fast.tw12395082137843272130 : True := trivial
theorem PySem.W.Fast.tw1760777975554319847 : True := trivial
theorem PySem.W.Fast.tw125189330484883320 : True := trivial
theorem PySem.W.Fast.tw14352999432173237378 : True := trivial
theorem PySem.W.Fast.tw3086178142069338517 : True := trivial
theorem PySem.W.Fast.tw2634120481497459268 : True := trivial
theorem PySem.W.Fast.tw17303169604555225190 : True := trivial
theorem PySem.W.Fast.tw5857102870195283343 : True := trivial
theorem PySem.W.Fast.tw16290238474496384772 : True := trivial
theorem PySem.W.Fast.tw11071263792924738556 : True := trivial
theorem PySem.W.Fast.tw11231692398628481970 : True := trivial
theorem PySem.W.Fast.tw6438156191336980925 : True := trivial
theorem PySem.W.Fast.tw6479867305121933692 : True := trivial
theorem PySem.W.Fast.tw14551453994450878228 : True := trivial
theorem PySem.W.Fast.tw16234137833715901554 : True := trivial
theorem PySem.W.Fast.tw4302695832862698382 : True := trivial
theorem PySem.W.Fast.tw2578867799804148425 : True := trivial
theorem PySem.W.Fast.tw16705486244525195727 : True := trivial
theorem PySem.W.Fast.tw15344281366708282538 : True := trivial
theorem PySem.W.Fast.tw18107915306855520442 : True := trivial
theorem PySem.W.Fast.tw15553120495739652136 : True := trivial
theorem PySem.W.Fast.tw7167816594028082357 : True := trivial
theorem PySem.W.Fast.tw13162926692852986045 : True := trivial
theorem PySem.W.Fast.tw710437220744446612 : True := trivial
theorem PySem.W.Fast.tw17785721710968570750 : True := trivial
theorem PySem.W.Fast.tw6246569842868634185 : True := trivial
theorem PySem.W.Fast.tw8126743126312943530 : True := trivial
theorem PySem.W.Fast.tw6947250917491549827 : True := trivial
theorem PySem.W.Fast.tw2620803589187659718 : True := trivial
theorem PySem.W.Fast.tw14991382147957952109 : True := trivial
theorem PySem.W.Fast.tw4213033466162895793 : True := trivial
theorem PySem.W.Fast.tw11668622187426997150 : True := trivial
theorem PySem.W.Fast.tw10586591567048007014 : True := trivial
theorem PySem.W.Fast.tw3530874562040529781 : True := trivial
theorem PySem.W.Fast.tw6283576618244712482 : True := trivial
theorem PySem.W.Fast.tw9053775975313169574 : True := trivial
theorem PySem.W.Fast.tw5530348731842776737 : True := trivial
theorem PySem.W.Fast.tw10158112456875805997 : True := trivial
theorem PySem.W.Fast.tw18231166934996999938 : True := trivial
theorem PySem.W.Fast.tw15534659763193775801 : True := trivial
theorem PySem.W.Fast.tw3145980797707260062 : True := trivial
theorem PySem.W.Fast.tw6153416723406824709 : True := trivial
theorem PySem.W.Fast.tw2310615273104040802 : True := trivial
theorem PySem.W.Fast.tw3209055855727727483 : True := trivial
theorem PySem.W.Fast.tw14229094570375779789 : True := trivial
theorem PySem.W.Fast.tw17635746894540159557 : True := trivial
theorem PySem.W.Fast.tw11190404866046700077 : True := trivial
theorem PySem.W.Fast.tw2594962879064709035 : True := trivial
theorem PySem.W.Fast.tw3592831206613166099 : True := trivial
theorem PySem.W.Fast.tw1269867111556286617 : True := trivial
theorem PySem.W.Fast.tw1965452373963077401 : True := trivial
theorem PySem.W.Fast.tw8194029648762446087 : True := trivial
theorem PySem.W.Fast.tw11590491234101744243 : True := trivial
theorem PySem.W.Fast.tw5525993301476513942 : True := trivial
theorem PySem.W.Fast.tw10977880881108887824 : True := trivial
set_option maxRecDepth 100000 in
set_option maxHeartbeats 0 in
theorem PySem.Challenge.cw_haul_s01_answers_holds : PySem.Challenge.rw_haul_s01_answers.Holds := by
  w_on; k_headS; (case hw => exact ⟨[.list [.int 8]], by decide +kernel, by decide +kernel⟩)
  k_fillS
  refine L2.walk_specK (r := PySem.Challenge.rw_haul_s01_answers) (k := 8) (CX := L2.CX0) (ps := ["calls"]) (sp := Hl.spAns) (by decide +kernel) rfl rfl ⟨rfl, by decide, by decide⟩ (fun w h Y => PySem.W.kIn_of Y) ?F ?S (fun _ _ _ _ z => z)
  case F =>
    intro w mg fa h Y KX G hmg
    refine' Hl.all_mk25 KX G hmg (Hl.Facts.mk ?road ?g_LEAST_STEP ?g_MOST_STEP ?g_NO_PIT ?g_NEVER ?g_REACH ?g_NO_STATION ?g_NO_SUCH_PIT ?g_NOT_BEGUN ?g_OUT_OF_RANGE ?g_CANNOT_BE ?g_MOST_WORTH ?g_BARRED ?g_MOST_HAULED ?g_LEAST_STATIONS ?g_MOST_STATIONS ?g_MOST_EARTH ?g_MOST_PRICE ?g_BEGIN ?n_abs ?n_len ?n_min ?n_max ?n_sum ?n_range ?n_enumerate ?n_zip ?n_list ?a_stations ?a_step_cost ?a_had ?a_needed ?a_borrow_prices ?a_spoil_prices ?cl ?makes ?kc ?m_init ?m_lay ?m_twin ?m_surplus ?m_has_way ?d_least_cost ?d_cheapest_way ?d_way_cost ?d_pit_amounts ?d_rest_costs ?d_with_hauling ?d_with_borrowing ?d_with_spoiling ?d_shifted ?d_first_onward ?d_onward_cost ?d_pit_cost ?d_loads_of ?d_is_allowed ?d_suits_pits ?d_what_it_says ?d_said_at ?d_row_told ?d_most_said ?d_said_or_barred ?d_within_a_step ?d_first_price ?d_nearness ?d_next_price ?d_swap ?d_is_step ?d_refusal ?d_row_fits ?d_lowered ?d_put_earth ?d_put_pit ?d_take_pit ?d_count_pits ?d_cost_or_refusal ?d_cost_with_pit ?d_in_all_and_each ?d_answer ?d_answers ?d_begin ?d_have ?d_need ?d_borrow ?d_noborrow ?d_spoil ?d_nospoil ?d_step ?d_can ?d_cost ?d_flows ?d_loads ?d_borrowed ?d_spoiled ?d_try_way ?d_prices ?d_bound ?d_ifstep ?d_ifpit ?d_bestpit ?d_without ?d_farthest ?d_station ?d_sums ?d_state ?calls ?hows ?rows)
    (case road => k_is)
    (case calls => refine' Hl.tupEx ?p1 ?p2 ?p3 ?p4 ?p5 ?p6; (case p1 => k_is); (case p2 => k_is); (case p3 => rfl); (case p4 => rfl); (case p6 => rfl); (case p5 => decide))
    (case g_LEAST_STEP => walk_at "hint")
    (case g_MOST_STEP => walk_at "hint")
    (case g_NO_PIT => walk_at "hint")
    (case g_NEVER => walk_at "hint")
    (case g_REACH => walk_at "hint")
    (case g_NO_STATION => walk_at "hint")
    (case g_NO_SUCH_PIT => walk_at "hint")
    (case g_NOT_BEGUN => walk_at "hint")
    (case g_OUT_OF_RANGE => walk_at "hint")
    (case g_CANNOT_BE => walk_at "hint")
    (case g_MOST_WORTH => walk_at "hint")
    (case g_BARRED => walk_at "hint")
    (case g_MOST_HAULED => walk_at "hint")
    (case g_LEAST_STATIONS => walk_at "hint")
    (case g_MOST_STATIONS => walk_at "hint")
    (case g_MOST_EARTH => walk_at "hint")
    (case g_MOST_PRICE => walk_at "hint")
    (case g_BEGIN => walk_at "hint")
    (case n_abs => k_is)
    (case n_len => k_is)
    (case n_min => k_is)
    (case n_max => k_is)
    (case n_sum => k_is)
    (case n_range => k_is)
    (case n_enumerate => k_is)
    (case n_zip => k_is)
    (case n_list => k_is)
    (case a_stations => unfold L2.NoAttr; k_is)
    (case a_step_cost => unfold L2.NoAttr; k_is)
    (case a_had => unfold L2.NoAttr; k_is)
    (case a_needed => unfold L2.NoAttr; k_is)
    (case a_borrow_prices => unfold L2.NoAttr; k_is)
    (case a_spoil_prices => unfold L2.NoAttr; k_is)
    (case cl => refine ⟨?p1, ?p2, ?p3, ?p4⟩; (case p1 => k_is); (case p2 => k_is); (case p3 => k_is); (case p4 => k_is))
    (case makes => k_is)
    (case kc => k_is)
    (case m_init => walk_at "hmeth")
    (case m_lay => walk_at "hmeth")
    (case m_twin => walk_at "hmeth")
    (case m_surplus => walk_at "hmeth")
    (case m_has_way => walk_at "hmeth")
    (case d_least_cost => walk_at "hdef")
    (case d_cheapest_way => walk_at "hdef")
    (case d_way_cost => walk_at "hdef")
    (case d_pit_amounts => walk_at "hdef")
    (case d_rest_costs => walk_at "hdef")
    (case d_with_hauling => walk_at "hdef")
    (case d_with_borrowing => walk_at "hdef")
    (case d_with_spoiling => walk_at "hdef")
    (case d_shifted => walk_at "hdef")
    (case d_first_onward => walk_at "hdef")
    (case d_onward_cost => walk_at "hdef")
    (case d_pit_cost => walk_at "hdef")
    (case d_loads_of => walk_at "hdef")
    (case d_is_allowed => walk_at "hdef")
    (case d_suits_pits => walk_at "hdef")
    (case d_what_it_says => walk_at "hdef")
    (case d_said_at => walk_at "hdef")
    (case d_row_told => walk_at "hdef")
    (case d_most_said => walk_at "hdef")
    (case d_said_or_barred => walk_at "hdef")
    (case d_within_a_step => walk_at "hdef")
    (case d_first_price => walk_at "hdef")
    (case d_nearness => walk_at "hdef")
    (case d_next_price => walk_at "hdef")
    (case d_swap => walk_at "hdef")
    (case d_is_step => walk_at "hdef")
    (case d_refusal => walk_at "hdef")
    (case d_row_fits => walk_at "hdef")
    (case d_lowered => walk_at "hdef")
    (case d_put_earth => walk_at "hdef")
    (case d_put_pit => walk_at "hdef")
    (case d_take_pit => walk_at "hdef")
    (case d_count_pits => walk_at "hdef")
    (case d_cost_or_refusal => walk_at "hdef")
    (case d_cost_with_pit => walk_at "hdef")
    (case d_in_all_and_each => walk_at "hdef")
    (case d_answer => walk_at "hdef")
    (case d_answers => walk_at "hdef")
    (case d_begin => walk_at "hcall")
    (case d_have => walk_at "hcall")
    (case d_need => walk_at "hcall")
    (case d_borrow => walk_at "hcall")
    (case d_noborrow => walk_at "hcall")
    (case d_spoil => walk_at "hcall")
    (case d_nospoil => walk_at "hcall")
    (case d_step => walk_at "hcall")
    (case d_can => walk_at "hcall")
    (case d_cost => walk_at "hcall")
    (case d_flows => walk_at "hcall")
    (case d_loads => walk_at "hcall")
    (case d_borrowed => walk_at "hcall")
    (case d_spoiled => walk_at "hcall")
    (case d_try_way => walk_at "hcall")
    (case d_prices => walk_at "hcall")
    (case d_bound => walk_at "hcall")
    (case d_ifstep => walk_at "hcall")
    (case d_ifpit => walk_at "hcall")
    (case d_bestpit => walk_at "hcall")
    (case d_without => walk_at "hcall")
    (case d_farthest => walk_at "hcall")
    (case d_station => walk_at "hcall")
    (case d_sums => walk_at "hcall")
    (case d_state => walk_at "hcall")
    (case hows => refine' Hl.rowEx ?p1 ?p2 ?p3 ?p4 ?p5 ?p6; (case p1 => k_is); (case p2 => k_is); (case p3 => rfl); (case p4 => rfl); (case p5 => decide); (case p6 => exact ⟨[_, _, _, _, _, _, _, _, _, _, _, _, _, _, _, _, _, _, _, _, _, _, _, _, _], rfl, rfl⟩))
    (case rows => refine' Hl.rowEx ?p1 ?p2 ?p3 ?p4 ?p5 ?p6; (case p1 => k_is); (case p2 => k_is); (case p3 => rfl); (case p4 => rfl); (case p5 => decide); (case p6 => exact ⟨[_, _], rfl, rfl⟩))
  case S =>
    intro K H xs a hO hwi hask hx
    cases hx with
    | cons h1 h2 =>
      cases h2
      cases h1 with
      | lst hs ha =>
        have e := L2.ints_dw a.1 _ ha
        subst e
        have q : ((Codec.inLen 0 30000 a.1 && a.1.all (Codec.inInt 0 4294967295)) && true) = true := hwi
        rw [Bool.and_eq_true, Bool.and_eq_true] at q
        exact ⟨_, a.1, rfl, hs, (Codec.inNat_iff.mp q.1.1).2, hask, fun H' p hp => .lst (L2.SqL.of hp) (L2.dw_ints _)⟩

