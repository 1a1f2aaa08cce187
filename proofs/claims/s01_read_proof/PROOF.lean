import PyProof.Rows.All
import Wide.All
import OpenK.AllK
import Wide.FinOn
import PyProof.EqAt
import PyProof.EqKinds
import PyProof.TupleCall
import KE.BitLaws
import Open.SpecLaws
import KE.OsHead
import KE.OsGo
import PySem.Challenge.RW_tablesteps_s01_read
set_option Elab.async false
set_option linter.all false
set_option maxRecDepth 100000
set_option maxHeartbeats 4100000
set_option Elab.async false
set_option linter.all false
set_option maxRecDepth 100000
namespace L2
open PySem PySem.Spec PyProof.Rows

noncomputable abbrev Key := Sum Int Str
noncomputable def keyIs : Key → Value → Bool
  | .inl k, v => Value.isInt k v
  | .inr x, v => Value.isStrOf x v
noncomputable def keyH (w : World) : Key → Int
  | .inl k => hashInt k
  | .inr x => hashStr w x
theorem keyIs_shape : ∀ {k : Key} {v : Value}, keyIs k v = true → (∃ i t, k = Sum.inl i ∧ v = Value.int i t) ∨ (∃ x t, k = Sum.inr x ∧ v = Value.str x t)
  | .inl i, v, h => by
    obtain ⟨t, e⟩ := Value.isInt_shape (k := i) (v := v) h
    exact .inl ⟨i, t, rfl, e⟩
  | .inr x, v, h => by
    obtain ⟨t, e⟩ := Value.isStrOf_shape (x := x) (v := v) h
    exact .inr ⟨x, t, rfl, e⟩
theorem key_ll (a b : Int) : decide ((Sum.inl a : Key) = Sum.inl b) = (a == b) := by
  by_cases e : a = b
  · subst e; simp
  · have h : ¬ (Sum.inl a : Key) = Sum.inl b := fun q => e (Sum.inl.inj q)
    rw [decide_eq_false h]
    exact (beq_eq_false_iff_ne.mpr e).symm
theorem key_rr (a b : Str) : decide ((Sum.inr a : Key) = Sum.inr b) = decide (a = b) := by
  by_cases e : a = b
  · subst e; simp
  · have h : ¬ (Sum.inr a : Key) = Sum.inr b := fun q => e (Sum.inr.inj q)
    rw [decide_eq_false h, decide_eq_false e]
theorem key_lr (a : Int) (b : Str) : decide ((Sum.inl a : Key) = Sum.inr b) = false := decide_eq_false (fun q => nomatch q)
theorem key_rl (a : Str) (b : Int) : decide ((Sum.inr a : Key) = Sum.inl b) = false := decide_eq_false (fun q => nomatch q)

noncomputable def mixKind (prog : Program) (w : World) : PySem.KeyKind prog w Key where
  is := keyIs
  hash := keyH w
  inj := fun v a b ha hb => by
    rcases keyIs_shape ha with ⟨i, t, rfl, rfl⟩ | ⟨x, t, rfl, rfl⟩
    · rcases keyIs_shape hb with ⟨j, u, rfl, e⟩ | ⟨y, u, rfl, e⟩
      · injection e with e1 _; rw [e1]
      · exact nomatch e
    · rcases keyIs_shape hb with ⟨j, u, rfl, e⟩ | ⟨y, u, rfl, e⟩
      · exact nomatch e
      · injection e with e1 _; rw [e1]
  byValue := fun k v h => by
    rcases keyIs_shape h with ⟨i, t, rfl, rfl⟩ | ⟨x, t, rfl, rfl⟩ <;> rfl
  pyHash := fun hv h => by
    rcases keyIs_shape hv with ⟨i, t, rfl, rfl⟩ | ⟨x, t, rfl, rfl⟩
    · exact wpAny_pyHash_int h
    · exact wpAny_pyHash_str h
  eqBool := fun hu hv h => by
    rcases keyIs_shape hu with ⟨i, t, rfl, rfl⟩ | ⟨x, t, rfl, rfl⟩
    · rcases keyIs_shape hv with ⟨j, u, rfl, rfl⟩ | ⟨y, u, rfl, rfl⟩
      · rw [key_ll] at h; exact wpAny_eqBool_int h
      · rw [key_lr] at h; exact SeqAt.EqAt.int_str i t y u _ _ _ _ h
    · rcases keyIs_shape hv with ⟨j, u, rfl, rfl⟩ | ⟨y, u, rfl, rfl⟩
      · rw [key_rl] at h; exact SeqAt.EqAt.str_int x t j u _ _ _ _ h
      · rw [key_rr] at h; exact wpAny_eqBool_str h
  «strs» := fun k x t v h => by
    rcases keyIs_shape h with ⟨i, u, rfl, e⟩ | ⟨y, u, rfl, e⟩
    · exact nomatch e
    · injection e with e1 _
      subst e1
      cases v <;> rfl

end L2

namespace L2
open PySem PySem.Spec PyProof.Rows

inductive V where
  | non | bl (b : Bool) | int (i : Int) | str (x : Str) | byt (b : Array UInt8) | flt (b : UInt64) | ref (a : Addr) | ty (n : String)
  deriving DecidableEq

noncomputable def RelV : V → Value → Prop
  | .non, u => u = Value.none
  | .bl b, u => u = Value.bool b
  | .int i, u => ∃ t, u = Value.int i t
  | .str x, u => ∃ t, u = Value.str x t
  | .byt b, u => ∃ t, u = Value.bytes b t
  | .flt b, u => ∃ t, u = Value.float b t
  | .ref a, u => u = Value.ref a
  | .ty n, u => u = Value.type n

noncomputable abbrev Vals : List V → List Value → Prop := Paired RelV
theorem Vals.length {xs : List V} {us : List Value} (r : Vals xs us) : xs.length = us.length := Paired.length r
theorem Vals.get : ∀ {xs : List V} {us : List Value} {i : Nat} {x : V}, Vals xs us → xs[i]? = some x → ∃ u, us[i]? = some u ∧ RelV x u
  | _, _, _, _, .nil, e => by simp at e
  | _, _, 0, _, .cons r _, e => by simp at e; subst e; exact ⟨_, rfl, r⟩
  | _, _, i + 1, x, .cons _ t, e => by
    obtain ⟨u, h1, h2⟩ := Vals.get (i := i) (x := x) t (by simpa using e)
    exact ⟨u, by simpa using h1, h2⟩
theorem Vals.append : ∀ {xs ys : List V} {us ws : List Value}, Vals xs us → Vals ys ws → Vals (xs ++ ys) (us ++ ws)
  | _, _, _, _, .nil, s => s
  | _, _, _, _, .cons r t, s => .cons r (Vals.append t s)
theorem Vals.take : ∀ {xs : List V} {us : List Value} (n : Nat), Vals xs us → Vals (xs.take n) (us.take n)
  | _, _, 0, _ => .nil
  | _, _, _ + 1, .nil => .nil
  | _, _, n + 1, .cons r t => .cons r (Vals.take n t)
theorem Vals.drop : ∀ {xs : List V} {us : List Value} (n : Nat), Vals xs us → Vals (xs.drop n) (us.drop n)
  | _, _, 0, r => r
  | _, _, _ + 1, .nil => .nil
  | _, _, n + 1, .cons _ t => Vals.drop n t
noncomputable def RelO : Option V → Option Value → Prop
  | some v, some u => RelV v u
  | none, none => True
  | _, _ => False
noncomputable def KV {κ : Type} : List (κ × V) → List (κ × Value) → Prop := Paired fun (p : κ × V) (q : κ × Value) => p.1 = q.1 ∧ RelV p.2 q.2

noncomputable def kV : Key → V
  | .inl i => .int i
  | .inr x => .str x

inductive HO where
    | lst (xs : List V)
    | tup (xs : List V)
    | dK (kvs : List (Key × V)) | dT (kvs : List (List Key × V))
    | set (S : Int → Bool) (n : Nat)
    | ins (C dx : Addr) (fs : List (Str × V))
    | own (x : Addr)
    | xd (fs : List (Str × V))
    | met (f x : Addr)
    | rng (lo hi : Int)
    | frz (o : Obj) (u : HO)
    | tbl (ps : Array Value)
    | ext (φ : Heap → Prop)

noncomputable abbrev Hp := Addr → Option HO
noncomputable def upd (H : Hp) (a : Addr) (o : HO) : Hp := fun b => if b = a then some o else H b
theorem upd_same {H : Hp} {a : Addr} {o : HO} : upd H a o a = some o := by unfold upd; rw [if_pos rfl]
theorem upd_ne {H : Hp} {a b : Addr} {o : HO} (h : b ≠ a) : upd H a o b = H b := by unfold upd; rw [if_neg h]
theorem upd_upd {H : Hp} {a : Addr} {o u : HO} : upd (upd H a o) a u = upd H a u := by
  funext b; unfold upd; split <;> rfl
theorem ne_of_none {H : Hp} {a b : Addr} {o : HO} (h : H a = some o) (h' : H b = none) : a ≠ b := by
  intro e; subst e; rw [h] at h'; cases h'

section
variable (P : Program) (w : World)
noncomputable def ObjOk (H : Hp) (h : Heap) (a : Addr) : HO → Prop
  | .lst xs => xs.length ≤ sizeLine ∧ ∃ (its : List Value) (n : Nat), Vals xs its ∧ h.get? a = some { cls := .type "list", data := .seq its.toArray n }
  | .tup xs => xs.length ≤ sizeLine ∧ ∃ its : List Value, Vals xs its ∧ IsTup h a its.toArray
  | .dK kvs => kvs.length ≤ sizeLine ∧ (a == sysModules) = false ∧ ∃ vs, KV kvs vs ∧ h.DictOf (mixKind P w) a vs
  | .dT kvs => kvs.length ≤ sizeLine ∧ (a == sysModules) = false ∧ ∃ xs : List (List Key × Addr × Value),
      Paired (fun (p : List Key × V) (q : List Key × Addr × Value) => p.1 = q.1 ∧ H q.2.1 = some (.tup (p.1.map kV)) ∧ RelV p.2 q.2.2) kvs xs ∧
      ∃ o es ep, h.get? a = some o ∧ o.ExactDict ∧ o.data = .dict es ep ∧ es.toList = xs.map (entryOfKey (tupleKind (mixKind P w))) ∧ (xs.map (·.1)).Nodup
  | .set S n => h.SetOf (intKind P w) a S n
  | .ins C dx fs => H dx = some (.own a) ∧ fs.length ≤ 1000 ∧ dx ≠ a ∧ h.get? a = some (PySem.W.instObj C dx) ∧
      ∃ mA, h.Ns1 dx mA ∧ (∀ f, RelO (fs.lookup f) (mA f)) ∧ PySem.Within mA (fs.map (·.1))
  | .own _ => ∃ o, h.get? a = some o
  | .xd fs => ∃ mA, h.Ns1 a mA ∧ ∀ f, RelO (fs.lookup f) (mA f)
  | .rng lo hi => ∃ t u v, h.get? a = some { cls := .type "range", data := .fields #[.int lo t, .int hi u, .int 1 v] }
  | .frz o u => h.get? a = some o ∧ ObjOk H h a u
  | .tbl ps => h.get? a = some { cls := .none, data := .fields ps }
  | .met f x => h.get? a = some (PySem.W.methodObj (.ref f) (.ref x))
  | .ext φ => φ h ∧ (∃ o, h.get? a = some o) ∧ ∀ h1 h2 : Heap, φ h1 → (∀ o, h1.get? a = some o → h2.get? a = some o) → φ h2
noncomputable def HOk (H : Hp) (h : Heap) : Prop := ∀ a o, H a = some o → ObjOk P w H h a o
end

section
variable {P : Program} {w : World} {H H' : Hp} {h h' : Heap} {a : Addr} {o : HO}
theorem ObjOk.lt (x : ObjOk P w H h a o) : a < h.objs.size := by
  cases o with
  | lst xs => obtain ⟨_, _, _, _, e⟩ := x; exact Heap.lt_size e
  | tup xs => obtain ⟨_, _, _, p⟩ := x; exact p.lt
  | dK kvs => obtain ⟨_, _, _, _, o, _, _, e, _⟩ := x; exact Heap.lt_size e
  | dT kvs => obtain ⟨_, _, _, _, o, _, _, e, _⟩ := x; exact Heap.lt_size e
  | set S n => obtain ⟨o, _, _, _, e, _⟩ := x; exact Heap.lt_size e
  | ins C dx fs => obtain ⟨_, _, _, e, _⟩ := x; exact Heap.lt_size e
  | own y => obtain ⟨_, e⟩ := x; exact Heap.lt_size e
  | xd fs => obtain ⟨_, ⟨_, _, _, e, _⟩, _⟩ := x; exact Heap.lt_size e
  | rng lo hi => obtain ⟨_, _, _, e⟩ := x; exact Heap.lt_size e
  | frz ob u => obtain ⟨e, _⟩ := x; exact Heap.lt_size e
  | tbl ps => exact Heap.lt_size (show h.get? a = some _ from x)
  | met f y => exact Heap.lt_size (show h.get? a = some _ from x)
  | ext φ => obtain ⟨_, ⟨_, e⟩, _⟩ := x; exact Heap.lt_size e
theorem Paired.mapP {α β : Type} {F G : α → β → Prop} : ∀ {l₁ : List α} {l₂ : List β}, Paired F l₁ l₂ → (∀ a b, F a b → G a b) → Paired G l₁ l₂
  | _, _, .nil, _ => .nil
  | _, _, .cons r t, f => .cons (f _ _ r) (Paired.mapP t f)
theorem ObjOk.stay (x : ObjOk P w H h a o) (k : ∀ b u, (b = a ∨ H b = some (.own a)) → h.get? b = some u → h'.get? b = some u)
    (ho : ∀ b, H b = some (.own a) → H' b = some (.own a)) (ht : ∀ b xs, H b = some (.tup xs) → H' b = some (.tup xs)) : ObjOk P w H' h' a o := by
  induction o with
  | lst xs => obtain ⟨z, its, n, r, e⟩ := x; exact ⟨z, its, n, r, k _ _ (.inl rfl) e⟩
  | tup xs => obtain ⟨z, its, r, ob, e, c⟩ := x; exact ⟨z, its, r, ob, k _ _ (.inl rfl) e, c⟩
  | dK kvs => obtain ⟨z, y, vs, r, ob, es, ep, e, c⟩ := x; exact ⟨z, y, vs, r, ob, es, ep, k _ _ (.inl rfl) e, c⟩
  | dT kvs =>
    obtain ⟨z, y, xs, r, ob, es, ep, e, c⟩ := x
    exact ⟨z, y, xs, Paired.mapP r fun p q z => ⟨z.1, ht _ _ z.2.1, z.2.2⟩, ob, es, ep, k _ _ (.inl rfl) e, c⟩
  | set S n => obtain ⟨ob, es, ep, t, e, c⟩ := x; exact ⟨ob, es, ep, t, k _ _ (.inl rfl) e, c⟩
  | ins C dx fs =>
    obtain ⟨d, z, ne, e, mA, ⟨od, es, ep, e2, c⟩, r⟩ := x
    exact ⟨ho _ d, z, ne, k _ _ (.inl rfl) e, mA, ⟨od, es, ep, k _ _ (.inr d) e2, c⟩, r⟩
  | own y => obtain ⟨ob, e⟩ := x; exact ⟨ob, k _ _ (.inl rfl) e⟩
  | xd fs => obtain ⟨mA, ⟨od, es, ep, e, c⟩, r⟩ := x; exact ⟨mA, ⟨od, es, ep, k _ _ (.inl rfl) e, c⟩, r⟩
  | rng lo hi => obtain ⟨t, u, v, e⟩ := x; exact ⟨t, u, v, k _ _ (.inl rfl) e⟩
  | frz ob u ih => obtain ⟨e, q⟩ := x; exact ⟨k _ _ (.inl rfl) e, ih q⟩
  | tbl ps =>
    have e : h.get? a = some { cls := .none, data := .fields ps } := x
    show h'.get? a = some { cls := .none, data := .fields ps }
    exact k a _ (.inl rfl) e
  | met f y =>
    have e : h.get? a = some (PySem.W.methodObj (.ref f) (.ref y)) := x
    show h'.get? a = some (PySem.W.methodObj (.ref f) (.ref y))
    exact k a _ (.inl rfl) e
  | ext φ => obtain ⟨p, ⟨o, e⟩, st⟩ := x; exact ⟨st _ _ p fun o q => k _ _ (.inl rfl) q, ⟨o, k _ _ (.inl rfl) e⟩, st⟩
theorem HOk.lt (x : HOk P w H h) (e : H a = some o) : a < h.objs.size := (x a o e).lt
theorem HOk.fresh (x : HOk P w H h) (e : h.objs.size ≤ a) : H a = none := by
  cases q : H a with
  | none => rfl
  | some u => exact absurd (Nat.lt_of_lt_of_le (x.lt q) e) (Nat.lt_irrefl _)
theorem HOk.kept (x : HOk P w H h) (k : ∀ b u, h.get? b = some u → h'.get? b = some u) : HOk P w H h' := fun a o e =>
  (x a o e).stay (fun b u _ q => k b u q) (fun _ q => q) fun _ _ q => q
theorem HOk.laid (x : HOk P w H h) (k : ∀ b u, h.get? b = some u → h'.get? b = some u) (hp : h.objs.size ≤ a) (new : ObjOk P w (upd H a o) h' a o) : HOk P w (upd H a o) h' := fun b u e => by
  have hn := x.fresh hp
  by_cases hb : b = a
  · subst hb; rw [upd_same] at e; cases e; exact new
  · rw [upd_ne hb] at e
    exact (x b u e).stay (fun c v _ q => k c v q) (fun c q => by rw [upd_ne (ne_of_none q hn)]; exact q) fun c xs q => by rw [upd_ne (ne_of_none q hn)]; exact q
end

noncomputable def Rd (H : Hp) (a : Addr) (u : HO) : Prop := H a = some u ∨ ∃ o, H a = some (.frz o u)
theorem Rd.ok {P : Program} {w : World} {H : Hp} {h : Heap} {a : Addr} {u : HO} (r : Rd H a u) (x : HOk P w H h) : ObjOk P w H h a u := by
  rcases r with r | ⟨o, r⟩
  · exact x a u r
  · obtain ⟨_, q⟩ := x a _ r
    exact q
noncomputable def Mut : Option HO → Prop
  | some (.lst _) => True
  | some (.dK _) => True
  | some (.dT _) => True
  | some (.set _ _) => True
  | some (.ins _ _ _) => True
  | some (.ext _) => True
  | _ => False
section
variable {P : Program} {w : World} {H : Hp} {h h' : Heap} {x e : Addr} {o' : HO}
theorem HOk.write (ok : HOk P w H h) (mu : Mut (H x)) (he : e = x ∨ H e = some (.own x)) (k : ∀ b u, b ≠ e → h.get? b = some u → h'.get? b = some u) (heo : ∃ u, h'.get? e = some u)
    (new : ObjOk P w (upd H x o') h' x o') : HOk P w (upd H x o') h' := fun b u q => by
  have nown : ∀ c y, H c = some (.own y) → c ≠ x := fun c y r z => by subst z; rw [r] at mu; exact mu
  have ntup : ∀ c xs, H c = some (.tup xs) → c ≠ x := fun c xs r z => by subst z; rw [r] at mu; exact mu
  by_cases hb : b = x
  · subst hb; rw [upd_same] at q; cases q; exact new
  · rw [upd_ne hb] at q
    by_cases hbe : b = e
    · have q' : H b = some (.own x) := by
        rcases he with z | z
        · exact absurd (hbe.trans z) hb
        · rw [hbe]; exact z
      rw [q] at q'; cases q'
      obtain ⟨v, hv⟩ := heo
      exact ⟨v, by rw [hbe]; exact hv⟩
    · refine (ok b u q).stay (fun c v hc r => k c v ?_ r) (fun c r => by rw [upd_ne (nown c b r)]; exact r) fun c xs r => by rw [upd_ne (ntup c xs r)]; exact r
      rcases hc with rfl | hc
      · exact hbe
      · rintro rfl
        rcases he with z | z
        · exact nown c b hc z
        · rw [hc] at z; cases z; exact hb rfl
end

structure Un (fs ex : List Addr) (H H' : Hp) (h h' : Heap) : Prop where
  keep : ∀ b o, h.get? b = some o → H b = none → b ∉ fs → b ∉ ex → h'.get? b = some o
  slot : ∀ b o, h.get? b = some o → H b = none → b ∈ fs → b ∉ ex → ∃ sl, h'.get? b = some { o with slots := sl }
  free : ∀ b o, h.get? b = some o → H b = none → b ∉ ex → H' b = none
  there : ∀ b o, h.get? b = some o → b ∉ ex → ∃ o', h'.get? b = some o'
  tups : ∀ b xs, H b = some (.tup xs) → H' b = some (.tup xs)
  frzs : ∀ b o u, H b = some (.frz o u) → H' b = some (.frz o u)
  tbls : ∀ b ps, H b = some (.tbl ps) → ∃ more, H' b = some (.tbl (ps ++ more))
section
variable {fs fs' ex ex' : List Addr} {H H1 H2 : Hp} {h h1 h2 h' : Heap} {a x e : Addr} {o : HO}
theorem Un.any (u : Un fs ex H H1 h h1) {b : Addr} {ob : Obj} (q : h.get? b = some ob) (n : H b = none) (hx : b ∉ ex) : ∃ sl, h1.get? b = some { ob with slots := sl } := by
  by_cases hb : b ∈ fs
  · exact u.slot b ob q n hb hx
  · exact ⟨ob.slots, u.keep b ob q n hb hx⟩
theorem Un.kept (k : ∀ b u, h.get? b = some u → h'.get? b = some u) : Un fs ex H H h h' :=
  ⟨fun b ob q _ _ _ => k b ob q, fun b ob q _ _ _ => ⟨ob.slots, k b ob q⟩, fun _ _ _ n _ => n, fun b ob q _ => ⟨ob, k b ob q⟩, fun _ _ q => q, fun _ _ _ q => q, fun _ ps q => ⟨#[], by rw [q]; simp⟩⟩
theorem Un.refl : Un fs ex H H h h := Un.kept fun _ _ q => q
theorem Un.laid (k : ∀ b u, h.get? b = some u → h'.get? b = some u) (hp : h.objs.size ≤ a) (hn : H a = none) : Un fs ex H (upd H a o) h h' where
  keep := fun b u q _ _ _ => k b u q
  slot := fun b u q _ _ _ => ⟨u.slots, k b u q⟩
  free := fun b u q n _ => by rw [upd_ne (Nat.ne_of_lt (Nat.lt_of_lt_of_le (Heap.lt_size q) hp))]; exact n
  there := fun b u q _ => ⟨u, k b u q⟩
  tups := fun b xs q => by rw [upd_ne (ne_of_none q hn)]; exact q
  frzs := fun b u xs q => by rw [upd_ne (ne_of_none q hn)]; exact q
  tbls := fun b ps q => ⟨#[], by rw [upd_ne (ne_of_none q hn), q]; simp⟩
theorem Un.write (mu : Mut (H x)) (he : e = x ∨ H e = some (.own x)) (k : ∀ b u, b ≠ e → h.get? b = some u → h'.get? b = some u) (heo : ∃ u, h'.get? e = some u) : Un fs ex H (upd H x o) h h' := by
  have hx : ∀ b, H b = none → b ≠ x := fun b n z => by subst z; rw [n] at mu; exact mu
  have hb : ∀ b, H b = none → b ≠ e := fun b n z => by
    subst z
    rcases he with r | r
    · exact hx b n r
    · rw [n] at r; cases r
  have hm : ∀ b u, H b = some u → ¬ Mut (some u) → b ≠ x := fun b u q nm z => by subst z; rw [q] at mu; exact nm mu
  refine ⟨fun b u q n _ _ => k b u (hb b n) q, fun b u q n _ _ => ⟨u.slots, k b u (hb b n) q⟩, fun b u q n _ => by rw [upd_ne (hx b n)]; exact n, fun b u q _ => ?_,
    fun b xs q => by rw [upd_ne (hm b _ q fun z => z)]; exact q, fun b u xs q => by rw [upd_ne (hm b _ q fun z => z)]; exact q, fun b ps q => ⟨#[], by rw [upd_ne (hm b _ q fun z => z), q]; simp⟩⟩
  by_cases hbe : b = e
  · subst hbe; exact heo
  · exact ⟨u, k b u hbe q⟩
end

noncomputable def trk (h : Heap) (H : Hp) : List Addr := (List.range h.objs.size).filter fun a => (H a).isSome
noncomputable def hidT (h : Heap) (H : Hp) : Heap := PySem.W.hideAll h (trk h H)
theorem hidT_size (h : Heap) (H : Hp) : (hidT h H).objs.size = h.objs.size := PySem.W.hideAll_size _ _
theorem hidT_get {h : Heap} {H : Hp} {b : Addr} {o : Obj} (e : h.get? b = some o) (n : H b = none) : (hidT h H).get? b = some o :=
  PySem.W.hideAll_get _ e fun hm => by
    have q : (H b).isSome = true := (List.mem_filter.mp hm).2
    rw [n] at q; simp at q
theorem of_hidT {h : Heap} {H : Hp} {b : Addr} {o : Obj} (e : (hidT h H).get? b = some o) : h.get? b = some o ∧ H b = none := by
  have e' : h.get? b = some o := PySem.W.of_hideAll (trk h H) e
  refine ⟨e', ?_⟩
  cases q : H b with
  | none => rfl
  | some x =>
    have hm : b ∈ trk h H := List.mem_filter.mpr ⟨List.mem_range.mpr (Heap.lt_size e'), by simp [q]⟩
    have z : (hidT h H).get? b = none := PySem.W.hideAll_none (trk h H) hm
    rw [z] at e; cases e

end L2

namespace L2
open PySem PySem.Spec PyProof.Rows

structure Mod (K : PySem.W.Frag) (mg : Str → Option Value) (base : Heap) : Prop where
  kin : K.In base
  glob : base.Ns mainGlobals mg
  blt : ∃ mb, base.Ns builtinsNs mb ∧ ∀ x : Str, x ≠ "__name__" → mb x = bootBuiltins x
  nolimit : base.NoLimit

structure Cx where
  prog : Program
  w : World
  K : PySem.W.Frag
  mg : Str → Option Value
  base : Heap
  A : Around
  N : List Str
  s_0 : Shared
  H_0 : Hp
  env : Env
  outer : List Env
  stack : List Env
  ex : List Addr
  fn : Str → Bool
  calm : Bool
  pn : List (Addr × Obj)
  xe : Value → Shared → Prop
noncomputable def frs (l : List Env) : List Addr := l.filterMap (·.frame)
noncomputable abbrev Cx.fs (X : Cx) : List Addr := frs X.outer

noncomputable def Vis (sc : Scope) (x : Str) : Prop := sc.names.lookup x = some .local ∨ sc.names.lookup x = some .cell ∨ sc.names.lookup x = some .free
noncomputable def Loc (sc : Scope) (x : Str) : Prop := sc.names.lookup x = some .local ∨ sc.names.lookup x = some .cell
noncomputable def Look (env : Env) (h : Heap) (m : Str → Option Value) (x : Str) (u : Value) : Prop :=
  (env.kindOf x = some .local ∧ m x = some u) ∨ ((env.kindOf x = some .cell ∨ env.kindOf x = some .free) ∧ ∃ c, env.cells.lookup x = some c ∧ h.IsCell c (some u))

structure Cx.Ok (X : Cx) : Prop where
  mod : Mod X.K X.mg X.base
  kind : X.env.scope.kind = .function
  glob : X.env.globals = mainGlobals
  blt : X.env.builtins = builtinsNs
  above : X.s_0.heap.objs.size ≤ X.env.locals
  inj : ∀ x y c, X.env.cells.lookup x = some c → X.env.cells.lookup y = some c → x = y
  has : ∀ x, (X.env.kindOf x = some .cell ∨ X.env.kindOf x = some .free) → ∃ c, X.env.cells.lookup x = some c
  cab : ∀ x c, X.fn x = true → X.env.cells.lookup x = some c → X.s_0.heap.objs.size ≤ c
  hd : X.calm = true → X.A.handled = none
  frames : X.A.frames = some X.stack
  stk : X.stack = X.outer ∨ (X.stack = X.env :: X.outer ∧ X.env.frame = some X.env.locals)
  exf : ∀ b ∈ X.ex, b ≠ X.env.locals ∧ ∀ x c, X.env.cells.lookup x = some c → c ≠ b
  bs : ∀ b o, X.base.get? b = some o → X.s_0.heap.get? b = some o ∧ X.H_0 b = none
  bsz : X.base.objs.size ≤ X.s_0.heap.objs.size
  noex : ∀ b o, X.base.get? b = some o → b ∉ X.ex
  exfs : ∀ b ∈ X.ex, b ∉ X.fs
  funs : X.s_0.heap.FunFrames X.base X.outer
  frf : ∀ b ∈ X.fs, X.H_0 b = none

structure Inv (X : Cx) (pins : List (Addr × Obj)) (σ : List (Option V)) (H : Hp) (s : Shared) : Prop where
  ok : X.Ok
  os : s.os = X.s_0.os
  bare : AllBare s.gens
  base : Un X.fs X.ex X.H_0 H X.s_0.heap s.heap
  loc : ∃ m, s.heap.Ns X.env.locals m ∧ ∀ (i : Nat) (x : Str) (v : V), X.N[i]? = some x → σ[i]? = some (some v) → Vis X.env.scope x → ∃ u, RelV v u ∧ Look X.env s.heap m x u
  cell : ∀ x c, X.env.cells.lookup x = some c → ∃ v, s.heap.IsCell c v
  free : H X.env.locals = none
  freeC : ∀ x c, X.env.cells.lookup x = some c → H c = none
  pin : ∀ p ∈ X.pn ++ pins, s.heap.get? p.1 = some p.2 ∧ H p.1 = none ∧ p.1 ≠ X.env.locals ∧ p.1 ∉ X.fs ∧ ∀ v, p.2.data ≠ .cell v
  hok : HOk X.prog X.w H s.heap
  len : σ.length = X.N.length

section
variable {X : Cx} {pins : List (Addr × Obj)} {σ : List (Option V)} {H H' : Hp} {s : Shared} {h' : Heap}

theorem Cx.Ok.nofr (ok : X.Ok) {b : Addr} {o : Obj} (e : X.base.get? b = some o) : b ∉ X.fs := fun hb => by
  have := (ok.funs.mem hb).1
  rw [e] at this; cases this
theorem Inv.bs (I : Inv X pins σ H s) : ∀ b o, X.base.get? b = some o → s.heap.get? b = some o ∧ H b = none := fun b o e =>
  ⟨I.base.keep b o (I.ok.bs b o e).1 (I.ok.bs b o e).2 (I.ok.nofr e) (I.ok.noex b o e), I.base.free b o (I.ok.bs b o e).1 (I.ok.bs b o e).2 (I.ok.noex b o e)⟩
theorem Inv.bk (I : Inv X pins σ H s) : ∀ b o, X.base.get? b = some o → s.heap.get? b = some o := fun b o e => (I.bs b o e).1
theorem Inv.mod (I : Inv X pins σ H s) : Mod X.K X.mg X.base := I.ok.mod
theorem Inv.kIn (I : Inv X pins σ H s) : X.K.In s.heap := I.ok.mod.kin.keeps I.bk
theorem Inv.nolimit (I : Inv X pins σ H s) : s.heap.NoLimit := I.ok.mod.nolimit.keeps I.bk
theorem Inv.lt (I : Inv X pins σ H s) : X.env.locals < s.heap.objs.size := let ⟨_, hn, _⟩ := I.loc; hn.lt
theorem Inv.sz (I : Inv X pins σ H s) : X.s_0.heap.objs.size ≤ s.heap.objs.size := Nat.le_trans I.ok.above (Nat.le_of_lt I.lt)
theorem Inv.nofs (I : Inv X pins σ H s) {a : Addr} (h : s.heap.objs.size ≤ a) : a ∉ X.fs := fun hb => by
  obtain ⟨_, o, ho, _⟩ := I.ok.funs.mem hb
  exact absurd (Nat.lt_of_lt_of_le (Heap.lt_size ho) (Nat.le_trans I.sz h)) (Nat.lt_irrefl _)
theorem Inv.cne (I : Inv X pins σ H s) : ∀ x c, X.env.cells.lookup x = some c → c ≠ X.env.locals := fun x c e z => by
  obtain ⟨v, o, ho, hd⟩ := I.cell x c e
  obtain ⟨m, ⟨o', es, ep, ho', hd', _⟩, _⟩ := I.loc
  rw [z, ho'] at ho; cases ho; rw [hd'] at hd; cases hd
theorem Inv.funs (I : Inv X pins σ H s) : s.heap.FunFrames X.base X.outer := by
  have all : ∀ (l : List Env), (∀ b ∈ frs l, b ∈ X.fs) → X.s_0.heap.FunFrames X.base l → s.heap.FunFrames X.base l := by
    intro l
    induction l with
    | nil => intro _ _; trivial
    | cons env r ih =>
      intro hs hl
      obtain ⟨hk, ⟨L, o, hf, hn, ho, hd⟩, hr⟩ := hl
      have hL : L ∈ X.fs := hs L (by unfold frs; rw [List.filterMap_cons, hf]; exact List.mem_cons_self)
      obtain ⟨sl, e⟩ := I.base.slot L o ho (I.ok.frf L hL) hL fun z => I.ok.exfs L z hL
      exact ⟨hk, ⟨L, _, hf, hn, e, hd⟩, ih (fun b hb => hs b (by unfold frs; rw [List.filterMap_cons, hf]; exact List.mem_cons_of_mem _ hb)) hr⟩
  exact all X.outer (fun _ hb => hb) I.ok.funs

theorem Inv.stack (I : Inv X pins σ H s) : s.heap.FunFrames X.base X.stack := by
  rcases I.ok.stk with e | ⟨e, hf⟩
  · rw [e]; exact I.funs
  · rw [e]
    obtain ⟨m, hn, _⟩ := I.loc
    refine .cons (by rw [I.ok.kind]; decide) hf hn ?_ I.funs
    exact Heap.get?_none_of_le (Nat.le_trans I.ok.bsz I.ok.above)
theorem Inv.stkSub (I : Inv X pins σ H s) : ∀ b ∈ frs X.stack, b ∈ X.env.locals :: X.fs := fun b hb => by
  rcases I.ok.stk with e | ⟨e, hf⟩
  · rw [e] at hb; exact List.mem_cons_of_mem _ hb
  · rw [e] at hb
    unfold frs at hb
    rw [List.filterMap_cons, hf] at hb
    exact hb
theorem Inv.stkFree (I : Inv X pins σ H s) : ∀ b ∈ frs X.stack, H b = none := fun b hb => by
  rcases List.mem_cons.mp (I.stkSub b hb) with e | hb
  · rw [e]; exact I.free
  · obtain ⟨_, o, ho, _⟩ := I.ok.funs.mem hb
    exact I.base.free b o ho (I.ok.frf b hb) fun z => I.ok.exfs b z hb

theorem Inv.step {g' : Array GenState} {t' : Nat} {d' : Drawn} {ch : List Addr} (I : Inv X pins σ H s)
    (hch : ∀ b ∈ ch, (b ∈ X.ex ∨ X.s_0.heap.objs.size ≤ b) ∧ b ≠ X.env.locals ∧ (∀ x c, X.env.cells.lookup x = some c → c ≠ b) ∧ ∀ p ∈ X.pn ++ pins, p.1 ≠ b)
    (keep : ∀ b o, b ≠ X.env.locals → b ∉ X.fs → b ∉ ch → s.heap.get? b = some o → H b = none → h'.get? b = some o)
    (slot : ∀ b o, b ≠ X.env.locals → b ∈ X.fs → b ∉ ch → s.heap.get? b = some o → H b = none → ∃ sl, h'.get? b = some { o with slots := sl }) (free : ∀ b o, b ∉ ch → s.heap.get? b = some o → H b = none → H' b = none)
    (there : ∀ b o, b ∉ ch → s.heap.get? b = some o → ∃ o', h'.get? b = some o')
    (tups : ∀ b xs, H b = some (.tup xs) → H' b = some (.tup xs)) (frzs : ∀ b o u, H b = some (.frz o u) → H' b = some (.frz o u)) (tbls : ∀ b ps, H b = some (.tbl ps) → ∃ more, H' b = some (.tbl (ps ++ more)))
    (ns : ∀ m, s.heap.Ns X.env.locals m → h'.Ns X.env.locals m) (hok : HOk X.prog X.w H' h') (hg : AllBare g') :
    Inv X pins σ H' { s with heap := h', gens := g', drawn := d', toks := t' } := by
  have neL : ∀ b o, X.s_0.heap.get? b = some o → b ≠ X.env.locals := fun b o e => Nat.ne_of_lt (Nat.lt_of_lt_of_le (Heap.lt_size e) I.ok.above)
  have neC : ∀ b o, X.s_0.heap.get? b = some o → b ∉ X.ex → b ∉ ch := fun b o e hx hb => by
    rcases (hch b hb).1 with z | z
    · exact hx z
    · exact absurd (Nat.lt_of_lt_of_le (Heap.lt_size e) z) (Nat.lt_irrefl _)
  have cellK : ∀ x c, X.env.cells.lookup x = some c → ∀ v, s.heap.IsCell c v → h'.IsCell c v := fun x c e v ⟨o, ho, hd⟩ => by
    have nch : c ∉ ch := fun z => (hch c z).2.2.1 x c e rfl
    by_cases hc : c ∈ X.fs
    · obtain ⟨sl, q⟩ := slot c o (I.cne x c e) hc nch ho (I.freeC x c e)
      exact ⟨_, q, hd⟩
    · exact ⟨o, keep c o (I.cne x c e) hc nch ho (I.freeC x c e), hd⟩
  refine ⟨I.ok, I.os, hg, ⟨fun b o e n hb hx => ?_, fun b o e n hb hx => ?_, fun b o e n hx => ?_, fun b o e hx => ?_, fun b xs e => tups b xs (I.base.tups b xs e), fun b o xs e => frzs b o xs (I.base.frzs b o xs e), fun b ps e => ?_⟩, ?_, fun x c e => ?_, ?_, fun x c e => ?_, fun p hp => ?_, hok, I.len⟩
  · exact keep b o (neL b o e) hb (neC b o e hx) (I.base.keep b o e n hb hx) (I.base.free b o e n hx)
  · obtain ⟨sl, e1⟩ := I.base.slot b o e n hb hx
    obtain ⟨sl', e2⟩ := slot b _ (neL b o e) hb (neC b o e hx) e1 (I.base.free b o e n hx)
    exact ⟨sl', e2⟩
  · obtain ⟨o', e1⟩ := I.base.there b o e hx
    exact free b o' (neC b o e hx) e1 (I.base.free b o e n hx)
  · obtain ⟨o', e1⟩ := I.base.there b o e hx
    exact there b o' (neC b o e hx) e1
  · obtain ⟨m1, e1⟩ := I.base.tbls b ps e
    obtain ⟨m2, e2⟩ := tbls b _ e1
    exact ⟨m1 ++ m2, by rw [e2, Array.append_assoc]⟩
  · obtain ⟨m, hn, hl⟩ := I.loc
    refine ⟨m, ns m hn, fun i x v e1 e2 e3 => ?_⟩
    obtain ⟨u, r, l⟩ := hl i x v e1 e2 e3
    refine ⟨u, r, ?_⟩
    rcases l with l | ⟨k, c, e, z⟩
    · exact .inl l
    · exact .inr ⟨k, c, e, cellK x c e _ z⟩
  · obtain ⟨v, z⟩ := I.cell x c e
    exact ⟨v, cellK x c e v z⟩
  · obtain ⟨m, ⟨o, _, _, ho, _⟩, _⟩ := I.loc
    exact free _ o (fun z => (hch _ z).2.1 rfl) ho I.free
  · obtain ⟨v, o, ho, hd⟩ := I.cell x c e
    exact free c o (fun z => (hch c z).2.2.1 x c e rfl) ho (I.freeC x c e)
  · obtain ⟨e, n, ne, nf, d⟩ := I.pin p hp
    have nch : p.1 ∉ ch := fun z => (hch p.1 z).2.2.2 p hp rfl
    exact ⟨keep p.1 p.2 ne nf nch e n, free p.1 p.2 nch e n, ne, nf, d⟩
theorem Inv.un {t' : Nat} (I : Inv X pins σ H s) (u : Un X.fs [] H H' s.heap h') (hok : HOk X.prog X.w H' h') : Inv X pins σ H' { s with heap := h', toks := t' } := by
  obtain ⟨m, ⟨o, es, ep, ho, r⟩, _⟩ := id I.loc
  obtain ⟨sl, hL⟩ := u.any ho I.free (by simp)
  exact I.step (g' := s.gens) (d' := s.drawn) (ch := []) (fun _ z => nomatch z) (fun b o _ hb _ e n => u.keep b o e n hb (by simp)) (fun b o _ hb _ e n => u.slot b o e n hb (by simp)) (fun b o _ e n => u.free b o e n (by simp)) (fun b o _ e => u.there b o e (by simp)) u.tups u.frzs u.tbls (fun m' hm => by
    obtain ⟨o', es', ep', ho', r'⟩ := hm
    rw [ho] at ho'; cases ho'
    exact ⟨_, es', ep', hL, r'⟩) hok I.bare
theorem Inv.call {g' : Array GenState} {t' : Nat} {d' : Drawn} {ch : List Addr} (I : Inv X pins σ H s) (u : Un (frs X.stack) ch H H' s.heap h') (hok : HOk X.prog X.w H' h') (hg : AllBare g')
    (hch : ∀ b ∈ ch, (b ∈ X.ex ∨ X.s_0.heap.objs.size ≤ b) ∧ b ≠ X.env.locals ∧ (∀ x c, X.env.cells.lookup x = some c → c ≠ b) ∧ ∀ p ∈ X.pn ++ pins, p.1 ≠ b) :
    Inv X pins σ H' { s with heap := h', gens := g', drawn := d', toks := t' } := by
  obtain ⟨m, ⟨o, es, ep, ho, r⟩, _⟩ := id I.loc
  obtain ⟨sl, hL⟩ := u.any ho I.free fun z => (hch _ z).2.1 rfl
  exact I.step (ch := ch) hch (fun b o hL hb hc e n => u.keep b o e n (fun z => (List.mem_cons.mp (I.stkSub b z)).elim hL hb) hc) (fun b o _ _ hc e n => u.any e n hc) (fun b o hc e n => u.free b o e n hc) (fun b o hc e => u.there b o e hc) u.tups u.frzs u.tbls (fun m' hm => by
    obtain ⟨o', es', ep', ho', r'⟩ := hm
    rw [ho] at ho'; cases ho'
    exact ⟨_, es', ep', hL, r'⟩) hok hg
theorem Inv.turned {t' : Nat} {it : Addr} (I : Inv X pins σ H s) (k : ∀ b o, b ≠ it → s.heap.get? b = some o → h'.get? b = some o) (hn : H it = none) (hL : it ≠ X.env.locals)
    (h1 : it ∈ X.ex ∨ X.s_0.heap.objs.size ≤ it) (h2 : ∀ x c, X.env.cells.lookup x = some c → c ≠ it) (h3 : ∀ p ∈ X.pn ++ pins, p.1 ≠ it) : Inv X pins σ H { s with heap := h', toks := t' } := by
  have nit : ∀ b u, H b = some u → b ≠ it := fun b u e z => by rw [z, hn] at e; cases e
  refine I.step (g' := s.gens) (d' := s.drawn) (ch := [it]) (fun b hb => ?_) (fun b o _ _ hc e _ => k b o (fun z => hc (by simp [z])) e) (fun b o _ _ hc e _ => ⟨o.slots, k b o (fun z => hc (by simp [z])) e⟩) (fun _ _ _ _ n => n)
    (fun b o hc e => ⟨o, k b o (fun z => hc (by simp [z])) e⟩) (fun _ _ e => e) (fun _ _ _ e => e) (fun b ps e => ⟨#[], by rw [e]; simp⟩) (fun m hm => ?_) (fun b u e => ?_) I.bare
  · have e : b = it := by simpa using hb
    subst e
    exact ⟨h1, hL, h2, h3⟩
  · obtain ⟨o, es, ep, ho, r⟩ := hm
    exact ⟨o, es, ep, k _ o (Ne.symm hL) ho, r⟩
  · refine (I.hok b u e).stay (fun c v hc q => k c v ?_ q) (fun _ q => q) fun _ _ q => q
    rcases hc with z | z
    · rw [z]; exact nit b u e
    · exact nit c _ z
theorem Inv.tok (I : Inv X pins σ H s) (t : Nat) : Inv X pins σ H { s with toks := t } := I.un (h' := s.heap) (t' := t) Un.refl I.hok
theorem Inv.kept {t' : Nat} (I : Inv X pins σ H s) (k : ∀ b u, s.heap.get? b = some u → h'.get? b = some u) : Inv X pins σ H { s with heap := h', toks := t' } := I.un (Un.kept k) (I.hok.kept k)
theorem Inv.laid {a : Addr} {o : HO} {t' : Nat} (I : Inv X pins σ H s) (k : ∀ b u, s.heap.get? b = some u → h'.get? b = some u) (hp : s.heap.objs.size ≤ a) (new : ObjOk X.prog X.w (upd H a o) h' a o) :
    Inv X pins σ (upd H a o) { s with heap := h', toks := t' } := I.un (Un.laid k hp (I.hok.fresh hp)) (I.hok.laid k hp new)
theorem Inv.write {x e : Addr} {o : HO} {t' : Nat} (I : Inv X pins σ H s) (mu : Mut (H x)) (he : e = x ∨ H e = some (.own x)) (k : ∀ b u, b ≠ e → s.heap.get? b = some u → h'.get? b = some u) (heo : ∃ u, h'.get? e = some u)
    (new : ObjOk X.prog X.w (upd H x o) h' x o) : Inv X pins σ (upd H x o) { s with heap := h', toks := t' } := I.un (Un.write mu he k heo) (I.hok.write mu he k heo new)
theorem Inv.weak {σ' : List (Option V)} (I : Inv X pins σ H s) (hl : σ'.length = σ.length) (w : ∀ (i : Nat) v, σ'[i]? = some (some v) → σ[i]? = some (some v)) : Inv X pins σ' H s :=
  ⟨I.ok, I.os, I.bare, I.base, let ⟨m, hn, hl'⟩ := I.loc; ⟨m, hn, fun i x v e1 e2 e3 => hl' i x v e1 (w i v e2) e3⟩, I.cell, I.free, I.freeC, I.pin, I.hok, hl.trans I.len⟩
theorem Inv.pins_of {pins' : List (Addr × Obj)} (I : Inv X pins σ H s) (h : ∀ p ∈ pins', s.heap.get? p.1 = some p.2 ∧ H p.1 = none ∧ p.1 ≠ X.env.locals ∧ p.1 ∉ X.fs ∧ ∀ v, p.2.data ≠ .cell v) : Inv X pins' σ H s :=
  ⟨I.ok, I.os, I.bare, I.base, I.loc, I.cell, I.free, I.freeC, fun p hp => (List.mem_append.mp hp).elim (fun z => I.pin p (List.mem_append_left _ z)) (h p), I.hok, I.len⟩

theorem nodup_ix {N : List Str} (hN : N.Nodup) {i j : Nat} {x : Str} (a : N[i]? = some x) (b : N[j]? = some x) : i = j := by
  obtain ⟨h1, e1⟩ := List.getElem?_eq_some_iff.mp a
  obtain ⟨h2, e2⟩ := List.getElem?_eq_some_iff.mp b
  exact (List.getElem_inj hN).mp (e1.trans e2.symm)

theorem store_ok2 {M : Model} {A : Around} {E : Value → Shared → Prop} {i : Nat} {x : Str} {v : V} {u : Value} {Q : Unit → Shared → Prop} (I : Inv X pins σ H s) (hN : X.N.Nodup) (hi : X.N[i]? = some x) (hx : Loc X.env.scope x) (r : RelV v u)
    (h : ∀ s', Inv X pins (σ.set i (some v)) H s' → (∃ a, Heap.SameBut a s.heap s'.heap ∧ (a = X.env.locals ∨ X.env.cells.lookup x = some a)) → Q () s') (hf : X.fn x = true ∨ X.env.scope.names.lookup x = some .local := by first | exact .inl rfl | exact .inr rfl | assumption) : wpAny M A (storeName X.env x u) Q E s := by
  obtain ⟨m, hn, hl⟩ := id I.loc
  have hcls : (X.env.scope.kind == .class || (X.env.scope.kind == .module && X.env.locals != X.env.globals)) = false := by rw [I.ok.kind]; rfl
  have hiσ : i < σ.length := by rw [I.len]; exact (List.getElem?_eq_some_iff.mp hi).1
  have cne := I.cne
  have tracked : ∀ {a : Addr} {h' : Heap}, (∃ o, s.heap.get? a = some o ∧ H a = none) → Heap.SameBut a s.heap h' → HOk X.prog X.w H h' := fun {a h'} ha hs b ob e => by
    obtain ⟨_, _, hfree⟩ := ha
    refine (I.hok b ob e).stay (fun c w' hc q => (hs.2 c ?_).trans q) (fun _ q => q) fun _ _ q => q
    rintro rfl
    rcases hc with rfl | hc
    · rw [hfree] at e; cases e
    · rw [hfree] at hc; cases hc
  rcases hx with hk | hk
  · refine wpAny_storeName_local hk hn (fun h' hn' hs => ?_) hcls
    obtain ⟨oL, _, _, hoL, _⟩ := id hn
    refine h _ ⟨I.ok, I.os, I.bare, ⟨fun b o e n hb hx => ?_, fun b o e n hb hx => ?_, I.base.free, fun b o e hx => ?_, I.base.tups, I.base.frzs, I.base.tbls⟩, ⟨_, hn', fun j y v' e1 e2 e3 => ?_⟩, fun y c e => ?_, I.free, I.freeC, fun p hp => ?_, tracked ⟨oL, hoL, I.free⟩ hs, by simpa using I.len⟩ ⟨_, hs, .inl rfl⟩
    · exact (hs.2 b (Nat.ne_of_lt (Nat.lt_of_lt_of_le (Heap.lt_size e) I.ok.above))).trans (I.base.keep b o e n hb hx)
    · obtain ⟨sl, e1⟩ := I.base.slot b o e n hb hx
      exact ⟨sl, (hs.2 b (Nat.ne_of_lt (Nat.lt_of_lt_of_le (Heap.lt_size e) I.ok.above))).trans e1⟩
    · obtain ⟨o', e1⟩ := I.base.there b o e hx
      exact ⟨o', (hs.2 b (Nat.ne_of_lt (Nat.lt_of_lt_of_le (Heap.lt_size e) I.ok.above))).trans e1⟩
    · by_cases hj : j = i
      · subst hj
        rw [hi] at e1; cases e1
        rw [List.getElem?_set_self hiσ] at e2
        cases e2
        exact ⟨u, r, .inl ⟨hk, by simp⟩⟩
      · rw [List.getElem?_set_ne (Ne.symm hj)] at e2
        obtain ⟨u', r', q⟩ := hl j y v' e1 e2 e3
        refine ⟨u', r', ?_⟩
        rcases q with ⟨k, e⟩ | ⟨k, c, e, z⟩
        · refine .inl ⟨k, ?_⟩
          have : y ≠ x := fun e => hj (nodup_ix hN e1 (e ▸ hi))
          simp [this, e]
        · exact .inr ⟨k, c, e, z.sameBut hs (cne y c e)⟩
    · obtain ⟨w', z⟩ := I.cell y c e
      exact ⟨w', z.sameBut hs (cne y c e)⟩
    · obtain ⟨e, n, ne, nf, d⟩ := I.pin p hp
      exact ⟨(hs.2 p.1 ne).trans e, n, ne, nf, d⟩
  · have hfn : X.fn x = true := by
      rcases hf with z | z
      · exact z
      · rw [z] at hk; cases hk
    obtain ⟨c, hc⟩ := I.ok.has x (.inl hk)
    obtain ⟨w', z⟩ := I.cell x c hc
    refine wpAny_storeName_cell I.ok.kind hk hc z (fun h' hc' hs => ?_)
    obtain ⟨oc, hoc, hocd⟩ := id z
    refine h { s with heap := h' } ⟨I.ok, I.os, I.bare, ⟨fun b o e n hb hx => ?_, fun b o e n hb hx => ?_, I.base.free, fun b o e hx => ?_, I.base.tups, I.base.frzs, I.base.tbls⟩, ⟨m, hn.sameBut hs (Ne.symm (cne x c hc)), fun j y v' e1 e2 e3 => ?_⟩, fun y c' e => ?_, I.free, I.freeC, fun p hp => ?_, tracked ⟨oc, hoc, I.freeC x c hc⟩ hs, by simpa using I.len⟩ ⟨c, hs, .inr hc⟩
    · exact (hs.2 b (Nat.ne_of_lt (Nat.lt_of_lt_of_le (Heap.lt_size e) (I.ok.cab x c hfn hc)))).trans (I.base.keep b o e n hb hx)
    · obtain ⟨sl, e1⟩ := I.base.slot b o e n hb hx
      exact ⟨sl, (hs.2 b (Nat.ne_of_lt (Nat.lt_of_lt_of_le (Heap.lt_size e) (I.ok.cab x c hfn hc)))).trans e1⟩
    · obtain ⟨o', e1⟩ := I.base.there b o e hx
      exact ⟨o', (hs.2 b (Nat.ne_of_lt (Nat.lt_of_lt_of_le (Heap.lt_size e) (I.ok.cab x c hfn hc)))).trans e1⟩
    · by_cases hj : j = i
      · subst hj
        rw [hi] at e1; cases e1
        rw [List.getElem?_set_self hiσ] at e2
        cases e2
        exact ⟨u, r, .inr ⟨.inl hk, c, hc, hc'⟩⟩
      · rw [List.getElem?_set_ne (Ne.symm hj)] at e2
        obtain ⟨u', r', q⟩ := hl j y v' e1 e2 e3
        refine ⟨u', r', ?_⟩
        rcases q with q | ⟨k, c', e, z'⟩
        · exact .inl q
        · refine .inr ⟨k, c', e, z'.sameBut hs ?_⟩
          rintro rfl
          exact hj (nodup_ix hN e1 (I.ok.inj _ _ _ e hc ▸ hi))
    · by_cases hcc : c' = c
      · subst hcc; exact ⟨_, hc'⟩
      · obtain ⟨w2, z2⟩ := I.cell y c' e
        exact ⟨w2, z2.sameBut hs hcc⟩
    · obtain ⟨e, n, ne, nf, d⟩ := I.pin p hp
      refine ⟨(hs.2 p.1 ?_).trans e, n, ne, nf, d⟩
      intro q
      rw [q, hoc] at e
      have q' : oc = p.2 := Option.some.inj e
      exact d w' (by rw [← q']; exact hocd)
theorem store_ok {M : Model} {A : Around} {E : Value → Shared → Prop} {i : Nat} {x : Str} {v : V} {u : Value} {Q : Unit → Shared → Prop} (I : Inv X pins σ H s) (hN : X.N.Nodup) (hi : X.N[i]? = some x) (hx : Loc X.env.scope x) (r : RelV v u)
    (h : ∀ s', Inv X pins (σ.set i (some v)) H s' → Q () s') (hf : X.fn x = true ∨ X.env.scope.names.lookup x = some .local := by first | exact .inl rfl | exact .inr rfl | assumption) : wpAny M A (storeName X.env x u) Q E s :=
  store_ok2 I hN hi hx r (fun s' I' _ => h s' I') hf
theorem Inv.call' {s' : Shared} {ch : List Addr} (I : Inv X pins σ H s) (ho : s'.os = s.os) (u : Un (frs X.stack) ch H H' s.heap s'.heap) (hok : HOk X.prog X.w H' s'.heap) (hg : AllBare s'.gens)
    (hch : ∀ b ∈ ch, (b ∈ X.ex ∨ X.s_0.heap.objs.size ≤ b) ∧ b ≠ X.env.locals ∧ (∀ x c, X.env.cells.lookup x = some c → c ≠ b) ∧ ∀ p ∈ X.pn ++ pins, p.1 ≠ b) : Inv X pins σ H' s' := by
  obtain ⟨h', g', d', t', o'⟩ := s'
  have e : o' = s.os := ho
  subst e
  exact I.call (g' := g') (t' := t') (d' := d') u hok hg hch
end

noncomputable abbrev XK := Value → Option Addr → Hp → Prop
noncomputable abbrev St := List (Option V)
noncomputable abbrev VK := V → Hp → Prop
noncomputable abbrev TE := St → Hp → VK → Prop
noncomputable abbrev TT := St → Hp → (Bool → Hp → Prop) → Prop
noncomputable abbrev TA := St → Hp → (List V → Hp → Prop) → Prop
structure Ends where
  nx : St → Hp → Prop
  rt : VK
  bk : St → Hp → Prop := fun _ _ => False
  ct : St → Hp → Prop := fun _ _ => False
noncomputable abbrev TS := Ends → St → Hp → Prop

noncomputable def EP (X : Cx) (pins : List (Addr × Obj)) (σ : St) (Q : VK) (u : Value) (s' : Shared) : Prop := ∃ v H', Inv X pins σ H' s' ∧ RelV v u ∧ Q v H'
noncomputable def TP (X : Cx) (pins : List (Addr × Obj)) (σ : St) (Q : Bool → Hp → Prop) (b : Bool) (s' : Shared) : Prop := ∃ H', Inv X pins σ H' s' ∧ Q b H'
noncomputable def AP (X : Cx) (pins : List (Addr × Obj)) (σ : St) (Q : List V → Hp → Prop) (us : List Value) (s' : Shared) : Prop := ∃ vs H', Inv X pins σ H' s' ∧ Vals vs us ∧ Q vs H'
noncomputable def SP (X : Cx) (pins : List (Addr × Obj)) (D : Ends) (f : Flow) (s' : Shared) : Prop :=
  match f with
  | .next => ∃ σ' H', Inv X pins σ' H' s' ∧ D.nx σ' H'
  | .brk => ∃ σ' H', Inv X pins σ' H' s' ∧ D.bk σ' H'
  | .cont => ∃ σ' H', Inv X pins σ' H' s' ∧ D.ct σ' H'
  | .ret u => ∃ v σ' H', Inv X pins σ' H' s' ∧ RelV v u ∧ D.rt v H'

noncomputable def PE (X : Cx) (e : Expr) (t : TE) : Prop :=
  ∀ (pins : List (Addr × Obj)) (s : Shared) (σ : St) (H : Hp) (Q : VK), Inv X pins σ H s → t σ H Q → wpAny (model X.prog X.w) X.A (eval e X.env) (EP X pins σ Q) X.xe s
noncomputable def PT (X : Cx) (e : Expr) (t : TT) : Prop :=
  ∀ (pins : List (Addr × Obj)) (s : Shared) (σ : St) (H : Hp) (Q : Bool → Hp → Prop), Inv X pins σ H s → t σ H Q → wpAny (model X.prog X.w) X.A (isTrue e X.env (eval e X.env)) (TP X pins σ Q) X.xe s
noncomputable def PW (X : Cx) (e : Expr) (t : TT) : Prop :=
  ∀ (whole : Sem Value) (pins : List (Addr × Obj)) (s : Shared) (σ : St) (H : Hp) (Q : Bool → Hp → Prop), Inv X pins σ H s → t σ H Q → wpAny (model X.prog X.w) X.A (isTrue e X.env whole) (TP X pins σ Q) X.xe s
theorem PW.pt {X : Cx} {e : Expr} {t : TT} (h : PW X e t) : PT X e t := h _
noncomputable def PA (X : Cx) (es : List Expr) (t : TA) : Prop :=
  ∀ (pos : Pos) (pins : List (Addr × Obj)) (s : Shared) (σ : St) (H : Hp) (Q : List V → Hp → Prop), Inv X pins σ H s → t σ H Q → wpAny (model X.prog X.w) X.A (spliced (backTo pos (starEach es X.env))) (AP X pins σ Q) X.xe s
noncomputable def PS (X : Cx) (st : Stmt) (t : TS) : Prop :=
  ∀ (pins : List (Addr × Obj)) (s : Shared) (σ : St) (H : Hp) (D : Ends), Inv X pins σ H s → t D σ H → wpAny (model X.prog X.w) X.A (exec st X.env) (SP X pins D) X.xe s
noncomputable def PSs (X : Cx) (st : List Stmt) (t : TS) : Prop :=
  ∀ (pins : List (Addr × Obj)) (s : Shared) (σ : St) (H : Hp) (D : Ends), Inv X pins σ H s → t D σ H → wpAny (model X.prog X.w) X.A (execs st X.env) (SP X pins D) X.xe s
theorem thn {α : Type} {t : Sem α} {Q Q' : α → Shared → Prop} {M : Model} {A : Around} {E : Value → Shared → Prop} {s : Shared} (h : wpAny M A t Q E s) (hQ : ∀ a s, Q a s → Q' a s) : wpAny M A t Q' E s := wpAny_mono h hQ fun _ _ x => x
end L2

namespace L2
open PySem PySem.Spec PyProof.Rows
section
variable {X : Cx}

noncomputable def tVar (i : Nat) : TE := fun σ H Q => ∃ v, σ[i]? = some (some v) ∧ Q v H
noncomputable def tC (v : V) : TE := fun _ H Q => Q v H
theorem pe_var {i : Nat} {x : Str} {pos : Pos} (hN : X.N[i]? = some x) (hv : Vis X.env.scope x) (hd : (x == ("__debug__" : Str)) = false := by decide) (hcd : (x == ("__classdict__" : Str)) = false := by decide) : PE X (.Name x pos) (tVar i) := by
  intro pins s σ H Q I h
  obtain ⟨v, e, h⟩ := h
  obtain ⟨m, hn, hl⟩ := I.loc
  obtain ⟨u, r, l⟩ := hl i x v hN e hv
  have fin : EP X pins σ Q u s := ⟨v, H, I, r, h⟩
  rcases l with ⟨hk, hm⟩ | ⟨hk, c, hc, hcell⟩
  · exact wpAny_Name (wpAny_loadName_local I.ok.kind hk hn hm fin) hd
  · rcases hk with hk | hk
    · exact wpAny_Name (wpAny_loadName_cell I.ok.kind hk hc hcell fin) hd
    · exact wpAny_Name (wpAny_loadName_free I.ok.kind hk hc hcell fin hcd) hd
theorem pe_int {i j pos} : PE X (.Constant (.int i) j pos) (tC (.int i)) := fun _ _ _ H _ I h => wpAny_Constant_int ⟨.int i, H, I.tok _, ⟨_, rfl⟩, h⟩
theorem pe_bl {b j pos} : PE X (.Constant (.bool b) j pos) (tC (.bl b)) := fun _ _ _ H _ I h => Constant_bool ⟨.bl b, H, I, rfl, h⟩
theorem pe_non {j pos} : PE X (.Constant .none j pos) (tC .non) := fun _ _ _ H _ I h => Constant_none ⟨.non, H, I, rfl, h⟩
theorem pe_str {x j pos} : PE X (.Constant (.str x) j pos) (tC (.str x)) := fun _ _ _ H _ I h => Calls.Constant_str ⟨.str x, H, I.tok _, ⟨_, rfl⟩, h⟩

noncomputable def Gl (X : Cx) (x : Str) : Prop := X.env.kindOf x = some .globalImplicit
theorem ld_glob {E : Value → Shared → Prop} {pins : List (Addr × Obj)} {s : Shared} {σ : St} {H : Hp} {x : Str} {u : Value} {pos : Pos} {Q : Value → Shared → Prop} (I : Inv X pins σ H s) (hg : Gl X x) (hm : X.mg x = some u) (h : Q u s)
    (hd : (x == ("__debug__" : Str)) = false := by decide) : wpAny (model X.prog X.w) X.A (eval (.Name x pos) X.env) Q E s :=
  Calls.Name_function_global I.ok.kind hg (Calls.loadGlobal_global (by rw [I.ok.glob]; exact I.mod.glob.keeps I.bk) hm h) hd
theorem ld_blt {E : Value → Shared → Prop} {pins : List (Addr × Obj)} {s : Shared} {σ : St} {H : Hp} {x : Str} {u : Value} {pos : Pos} {Q : Value → Shared → Prop} (I : Inv X pins σ H s) (hg : Gl X x) (hm : X.mg x = none) (hv : bootBuiltins x = some u) (h : Q u s)
    (hn : x ≠ "__name__" := by decide) (hd : (x == ("__debug__" : Str)) = false := by decide) : wpAny (model X.prog X.w) X.A (eval (.Name x pos) X.env) Q E s := by
  obtain ⟨mb, h1, h2⟩ := I.mod.blt
  exact Calls.Name_function_global I.ok.kind hg (Calls.loadGlobal_builtin (by rw [I.ok.glob]; exact I.mod.glob.keeps I.bk) hm (by rw [I.ok.blt]; exact h1.keeps I.bk) ((h2 x hn).trans hv) h) hd
theorem pe_glob {x : Str} {v : V} {u : Value} {pos : Pos} (hg : Gl X x) (hm : X.mg x = some u) (r : RelV v u) (hd : (x == ("__debug__" : Str)) = false := by decide) : PE X (.Name x pos) (tC v) :=
  fun _ _ _ H _ I h => ld_glob I hg hm ⟨v, H, I, r, h⟩ hd
variable {a b : Expr} {ta tb : TE} {pos : Pos}
noncomputable def tB (t : TE) : TT := fun σ H Q => t σ H fun x H1 => ∃ c, x = .bl c ∧ Q c H1
theorem pt_val {e : Expr} {t : TE} (h : PE X e t) (he : ∀ whole, isTrue e X.env whole = (do let v ← whole; standAt e.pos; holding [v] (truthy v)) := by intro _; rfl) : PT X e (tB t) := by
  intro pins s σ H Q I hw
  refine isTrue_plain (thn (h pins s σ H _ I hw) fun v s1 ⟨x, H1, I1, r1, q1⟩ => ?_) (he _)
  obtain ⟨d, rfl, q⟩ := q1
  cases r1
  exact wpAny_truthy_bool ⟨H1, I1, q⟩

variable {tA tB' : TT} {rest : List Expr}
noncomputable def tAnd (t u : TT) : TT := fun σ H Q => t σ H fun c H1 => if c = true then u σ H1 Q else Q false H1
noncomputable def tOr (t u : TT) : TT := fun σ H Q => t σ H fun c H1 => if c = true then Q true H1 else u σ H1 Q
noncomputable def tNot (t : TT) : TT := fun σ H Q => t σ H fun c H1 => Q (!c) H1
theorem pw_and1 (ha : PT X a tA) : PW X (.BoolOp .And [a] pos) tA := by
  intro wh pins s σ H Q I h
  refine isTrue_and (thn (ha pins s σ H Q I h) fun c s1 e => ?_)
  cases c with
  | true => exact isTrue_and_nil e
  | false => exact e
theorem pw_or1 (ha : PT X a tA) : PW X (.BoolOp .Or [a] pos) tA := by
  intro wh pins s σ H Q I h
  refine isTrue_or (thn (ha pins s σ H Q I h) fun c s1 e => ?_)
  cases c with
  | false => exact isTrue_or_nil e
  | true => exact e
theorem pw_and (ha : PT X a tA) (hb : PW X (.BoolOp .And (b :: rest) pos) tB') : PW X (.BoolOp .And (a :: b :: rest) pos) (tAnd tA tB') := by
  intro wh pins s σ H Q I h
  refine isTrue_and (thn (ha pins s σ H _ I h) fun c s1 ⟨H1, I1, q1⟩ => ?_)
  cases c with
  | true => exact hb wh pins s1 σ H1 Q I1 q1
  | false => exact ⟨H1, I1, q1⟩
theorem pw_or (ha : PT X a tA) (hb : PW X (.BoolOp .Or (b :: rest) pos) tB') : PW X (.BoolOp .Or (a :: b :: rest) pos) (tOr tA tB') := by
  intro wh pins s σ H Q I h
  refine isTrue_or (thn (ha pins s σ H _ I h) fun c s1 ⟨H1, I1, q1⟩ => ?_)
  cases c with
  | true => exact ⟨H1, I1, q1⟩
  | false => exact hb wh pins s1 σ H1 Q I1 q1
theorem pt_not (ha : PT X a tA) : PT X (.UnaryOp .Not a pos) (tNot tA) := by
  intro pins s σ H Q I h
  exact isTrue_not (ha pins s σ H (fun c H1 => Q (!c) H1) I h)
noncomputable def tAndV (ta tb : TE) : TE := fun σ H Q => ta σ H fun x H1 => ∃ c, x = .bl c ∧ if c = true then tb σ H1 Q else Q (.bl false) H1
noncomputable def tNotV (ta : TE) : TE := fun σ H Q => ta σ H fun x H1 => ∃ c, x = .bl c ∧ Q (.bl (!c)) H1
theorem pe_one {op} {t : TE} (h : PE X a t) : PE X (.BoolOp op [a] pos) t := fun pins s σ H Q I hw => BoolOp_one (h pins s σ H Q I hw)
theorem pe_and (ha : PE X a ta) (hb : PE X (.BoolOp .And (b :: rest) pos) tb) : PE X (.BoolOp .And (a :: b :: rest) pos) (tAndV ta tb) := by
  intro pins s σ H Q I h
  refine BoolOp_and (thn (ha pins s σ H _ I h) fun v s1 ⟨x, H1, I1, r1, q1⟩ => ?_)
  obtain ⟨c, rfl, q1⟩ := q1
  cases r1
  refine wpAny_truthy_bool ?_
  cases c with
  | true => exact hb pins s1 σ H1 Q I1 q1
  | false => exact ⟨.bl false, H1, I1, rfl, q1⟩
theorem pe_not (ha : PE X a ta) : PE X (.UnaryOp .Not a pos) (tNotV ta) := by
  intro pins s σ H Q I h
  refine UnaryOp_ (thn (ha pins s σ H _ I h) fun v s1 ⟨x, H1, I1, r1, q1⟩ => ?_)
  obtain ⟨c, rfl, q1⟩ := q1
  cases r1
  exact not_of (wpAny_truthy_bool ⟨.bl (!c), H1, I1, rfl, q1⟩)
end
end L2

namespace L2
open PySem PySem.Spec PyProof.Rows

noncomputable def SqL (K : PySem.W.Frag) (H : Hp) (a : Addr) (xs : List V) : Prop :=
  Rd H a (.lst xs) ∨
    ∃ (o : Obj) (its : Array Value) (n : Nat), K.lookup a = some o ∧ o.cls = .type "list" ∧ o.dict = none ∧ o.data = .seq its n ∧ its.size ≤ sizeLine ∧ Vals xs its.toList
noncomputable def SqT (K : PySem.W.Frag) (H : Hp) (a : Addr) (xs : List V) : Prop :=
  Rd H a (.tup xs) ∨
    ∃ (o : Obj) (its : Array Value) (n : Nat), K.lookup a = some o ∧ o.cls = .type "tuple" ∧ o.data = .seq its n ∧ its.size ≤ sizeLine ∧ Vals xs its.toList
noncomputable def absV : Value → Option V
  | .none => some .non
  | .bool b => some (.bl b)
  | .int i _ => some (.int i)
  | .str x _ => some (.str x)
  | .bytes b _ => some (.byt b)
  | .float b _ => some (.flt b)
  | .ref a => some (.ref a)
  | .type n => some (.ty n)
  | _ => none
theorem RelV.abs {x : V} {u : Value} (r : RelV x u) : absV u = some x := by
  cases x with
  | non => cases r; rfl
  | bl _ => cases r; rfl
  | int _ => obtain ⟨t, rfl⟩ := r; rfl
  | str _ => obtain ⟨t, rfl⟩ := r; rfl
  | byt _ => obtain ⟨t, rfl⟩ := r; rfl
  | flt _ => obtain ⟨t, rfl⟩ := r; rfl
  | ref _ => cases r; rfl
  | ty _ => cases r; rfl
theorem RelV.inj {x y : V} {u : Value} (r : RelV x u) (q : RelV y u) : x = y := Option.some.inj (r.abs.symm.trans q.abs)
theorem Vals.inj : ∀ {xs ys : List V} {us : List Value}, Vals xs us → Vals ys us → xs = ys
  | _, _, _, .nil, .nil => rfl
  | _, _, _, .cons r t, .cons r' t' => by rw [r.inj r', Vals.inj t t']
section
variable {X : Cx} {pins : List (Addr × Obj)} {σ : St} {H : Hp} {s : Shared} {a : Addr} {xs ys : List V}
theorem SqL.of {K : PySem.W.Frag} (h : H a = some (.lst xs)) : SqL K H a xs := .inl (.inl h)
theorem SqT.of {K : PySem.W.Frag} (h : H a = some (.tup xs)) : SqT K H a xs := .inl (.inl h)
theorem Inv.list (I : Inv X pins σ H s) (h : SqL X.K H a xs) : ∃ its : List Value, Vals xs its ∧ PlainL s.heap a its.toArray ∧ xs.length ≤ sizeLine := by
  rcases h with h | ⟨o, its, n, hk, hc, hd, hs, hz, r⟩
  · obtain ⟨z, its, n, r, e⟩ := h.ok I.hok
    exact ⟨its, r, ⟨_, n, e, rfl, rfl, rfl⟩, z⟩
  · refine ⟨its.toList, r, ⟨o, n, I.kIn a o hk, hc, hd, by simpa using hs⟩, ?_⟩
    have e := r.length
    simp only [Array.length_toList] at e
    omega
theorem Inv.tuple (I : Inv X pins σ H s) (h : SqT X.K H a xs) : ∃ its : List Value, Vals xs its ∧ IsTup s.heap a its.toArray ∧ xs.length ≤ sizeLine := by
  rcases h with h | ⟨o, its, n, hk, hc, hs, hz, r⟩
  · obtain ⟨z, its, r, p⟩ := h.ok I.hok
    exact ⟨its, r, p, z⟩
  · refine ⟨its.toList, r, ⟨o, I.kIn a o hk, hc, n, by simpa using hs⟩, ?_⟩
    have e := r.length
    simp only [Array.length_toList] at e
    omega
theorem Inv.list_inj (I : Inv X pins σ H s) (h : SqL X.K H a xs) (h' : SqL X.K H a ys) : xs = ys := by
  obtain ⟨its, r, ⟨o, n, e, _, _, d⟩, _⟩ := I.list h
  obtain ⟨its', r', ⟨o', n', e', _, _, d'⟩, _⟩ := I.list h'
  rw [e] at e'; cases e'
  rw [d] at d'
  injection d' with d1 _
  have : its = its' := by simpa using congrArg Array.toList d1
  subst this
  exact r.inj r'
end

noncomputable abbrev Cx.wish (X : Cx) (E : Value → Shared → Prop) : Cx := { X with xe := E }
noncomputable abbrev Cx.nox (X : Cx) : Cx := X.wish fun _ _ => False
theorem Cx.Ok.wish {X : Cx} (ok : X.Ok) (E : Value → Shared → Prop) : (X.wish E).Ok :=
  ⟨ok.mod, ok.kind, ok.glob, ok.blt, ok.above, ok.inj, ok.has, ok.cab, ok.hd, ok.frames, ok.stk, ok.exf, ok.bs, ok.bsz, ok.noex, ok.exfs, ok.funs, ok.frf⟩
theorem Cx.Ok.unwish {X : Cx} {E : Value → Shared → Prop} (ok : (X.wish E).Ok) : X.Ok :=
  ⟨ok.mod, ok.kind, ok.glob, ok.blt, ok.above, ok.inj, ok.has, ok.cab, ok.hd, ok.frames, ok.stk, ok.exf, ok.bs, ok.bsz, ok.noex, ok.exfs, ok.funs, ok.frf⟩
section
variable {X : Cx} {pins : List (Addr × Obj)} {σ : St} {H : Hp} {s : Shared} {E : Value → Shared → Prop}
theorem Inv.wish (I : Inv X pins σ H s) (E : Value → Shared → Prop) : Inv (X.wish E) pins σ H s := ⟨I.ok.wish E, I.os, I.bare, I.base, I.loc, I.cell, I.free, I.freeC, I.pin, I.hok, I.len⟩
theorem Inv.unwish (I : Inv (X.wish E) pins σ H s) : Inv X pins σ H s := ⟨I.ok.unwish, I.os, I.bare, I.base, I.loc, I.cell, I.free, I.freeC, I.pin, I.hok, I.len⟩
end

section
variable {X : Cx} {st : Stmt} {rest : List Stmt} {t u : TS} {e : Expr} {te : TE} {pos : Pos}
noncomputable def tNext : TS := fun D σ H => D.nx σ H
noncomputable def tSeq (t u : TS) : TS := fun D σ H => t { D with nx := u D } σ H
theorem pss_nil : PSs X [] tNext := fun _ _ σ H _ I h => wpAny_execs_nil ⟨σ, H, I, h⟩
theorem pss_cons (h1 : PS X st t) (h2 : PSs X rest u) : PSs X (st :: rest) (tSeq t u) := by
  intro pins s σ H D I h
  refine wpAny_execs_cons (thn (h1 pins s σ H { D with nx := u D } I h) fun f s1 q => ?_)
  cases f with
  | next =>
    obtain ⟨σ', H', I', q⟩ := q
    exact h2 pins s1 σ' H' D I' q
  | ret v => exact q
  | brk => exact q
  | cont => exact q
theorem pss_one (h1 : PS X st t) : PSs X [st] t := by
  intro pins s σ H D I h
  refine wpAny_execs_cons (thn (h1 pins s σ H D I h) fun f s1 q => ?_)
  cases f with
  | next => exact wpAny_execs_nil q
  | ret v => exact q
  | brk => exact q
  | cont => exact q
theorem Inv.quiet {pins : List (Addr × Obj)} {σ : St} {H : Hp} {s : Shared} (I : Inv X pins σ H s) : interactive X.env = false := by simp [interactive, I.ok.kind]
noncomputable def tDrop (te : TE) : TS := fun D σ H => te σ H fun _ H1 => D.nx σ H1
theorem ps_expr (he : PE X e te) (hs : swapsWith e none pos.line X.env = pure false := by rfl) : PS X (.Expr e pos) (tDrop te) := by
  intro pins s σ H D I h
  exact wpAny_Expr_any (thn (he pins s σ H _ I h) fun v s1 ⟨x, H1, I1, r1, q1⟩ => ⟨σ, H1, I1, q1⟩) I.quiet hs
noncomputable def tRet (te : TE) : TS := fun D σ H => te σ H D.rt
theorem ps_ret (he : PE X e te) : PS X (.Return (some e) pos) (tRet te) := by
  intro pins s σ H D I h
  exact wpAny_Return_some (thn (he pins s σ H _ I h) fun v s1 ⟨x, H1, I1, r1, q1⟩ => ⟨x, σ, H1, I1, r1, q1⟩)
noncomputable def tIfS (c : TT) (t u : TS) : TS := fun D σ H => c σ H fun b H1 => if b = true then t D σ H1 else u D σ H1
theorem ps_if {c : Expr} {a b : List Stmt} {tc : TT} (hc : PT X c tc) (ha : PSs X a t) (hb : PSs X b u) : PS X (.If c a b pos) (tIfS tc t u) := by
  intro pins s σ H D I h
  refine wpAny_If (thn (hc pins s σ H _ I h) fun d s1 ⟨H1, I1, q1⟩ => ?_)
  cases d with
  | true => exact ha pins s1 σ H1 D I1 q1
  | false => exact hb pins s1 σ H1 D I1 q1
end

noncomputable abbrev TG := V → St → Hp → (St → Hp → Prop) → Prop
noncomputable abbrev TGs := List V → St → Hp → (St → Hp → Prop) → Prop
noncomputable def PG (X : Cx) (target : Expr) (t : TG) : Prop :=
  ∀ (pins : List (Addr × Obj)) (s : Shared) (σ : St) (H : Hp) (v : V) (u : Value) (Q : St → Hp → Prop), Inv X pins σ H s → RelV v u → t v σ H Q →
    wpAny (model X.prog X.w) X.A (assign target X.env u) (fun _ s' => ∃ σ' H', Inv X pins σ' H' s' ∧ Q σ' H') X.xe s
noncomputable def PGs (X : Cx) (ts : List Expr) (t : TGs) : Prop :=
  ∀ (pins : List (Addr × Obj)) (s : Shared) (σ : St) (H : Hp) (vs : List V) (us : List Value) (Q : St → Hp → Prop), Inv X pins σ H s → Vals vs us → t vs σ H Q →
    wpAny (model X.prog X.w) X.A (assignInOrder ((assignEach ts X.env).map (·.2)) us) (fun _ s' => ∃ σ' H', Inv X pins σ' H' s' ∧ Q σ' H') X.xe s
section
variable {X : Cx} {pos : Pos}
noncomputable def gName (i : Nat) : TG := fun v σ H Q => Q (σ.set i (some v)) H
theorem pg_name {i : Nat} {x : Str} (hN : X.N.Nodup) (hi : X.N[i]? = some x) (hx : Loc X.env.scope x) (hf : X.fn x = true ∨ X.env.scope.names.lookup x = some .local := by first | exact .inl rfl | exact .inr rfl | assumption) : PG X (.Name x pos) (gName i) := by
  intro pins s σ H v u Q I r h
  exact wpAny_assign_Name (store_ok I hN hi hx r (fun s' I' => ⟨_, H, I', h⟩) hf)
noncomputable def gNil : TGs := fun vs σ H Q => vs = [] ∧ Q σ H
noncomputable def gCons (t : TG) (u : TGs) : TGs := fun vs σ H Q => ∃ v r, vs = v :: r ∧ t v σ H fun σ' H' => u r σ' H' Q
theorem pgs_nil : PGs X [] gNil := by
  intro pins s σ H vs us Q I r h
  obtain ⟨e, h⟩ := h
  subst e
  cases r
  exact assignInOrder_nil ⟨σ, H, I, h⟩
theorem pgs_cons {e : Expr} {es : List Expr} {t : TG} {u : TGs} (h1 : PG X e t) (h2 : PGs X es u)
    (hs : (assignEach (e :: es) X.env).map (·.2) = assign e X.env :: (assignEach es X.env).map (·.2) := by rfl) : PGs X (e :: es) (gCons t u) := by
  intro pins s σ H vs us Q I r h
  obtain ⟨v, vr, e1, h⟩ := h
  subst e1
  cases r with
  | cons r rr =>
    rw [hs]
    refine assignInOrder_cons (thn (h1 pins s σ H _ _ _ I r h) fun _ s1 ⟨σ1, H1, I1, q1⟩ => ?_)
    exact h2 pins s1 σ1 H1 _ _ Q I1 rr q1
noncomputable def gTup (K : PySem.W.Frag) (n : Nat) (t : TGs) : TG := fun v σ H Q => ∃ a xs, v = .ref a ∧ SqT K H a xs ∧ xs.length = n ∧ t xs σ H Q
theorem pg_tup {es : List Expr} {k : Nat} {t : TGs} {n : Nat} (hc : X.calm = true) (h : PGs X es t)
    (hn : (assignEach es X.env).length = n := by rfl) (hst : (assignEach es X.env).findIdx? (·.1) = none := by rfl) : PG X (.Tuple es k pos) (gTup X.K n t) := by
  intro pins s σ H v u Q I r hw
  obtain ⟨a, xs, e1, hq, hl, hw⟩ := hw
  subst e1
  cases r
  obtain ⟨its, rv, ht, hz⟩ := I.tuple hq
  refine assign_Tuple_tuple (I.ok.hd hc) ht (by simp [hn, ← hl, rv.length]) hst fun h' hx => ?_
  have I1 : Inv X pins σ H { s with heap := h' } := I.kept (t' := s.toks) fun b o e => hx b o (Nat.ne_of_lt (Heap.lt_size e)) e
  exact h pins _ σ H xs _ Q I1 (by simpa using rv) hw
noncomputable def tAsg (te : TE) (g : TG) : TS := fun D σ H => te σ H fun x H1 => g x σ H1 D.nx
theorem ps_set {i : Nat} {x : Str} {e : Expr} {te : TE} {pos' : Pos} (hN : X.N.Nodup) (hi : X.N[i]? = some x) (hx : Loc X.env.scope x) (he : PE X e te) (hs : swapsWith e (some (.Name x pos')) pos.line X.env = pure false := by rfl) (hf : X.fn x = true ∨ X.env.scope.names.lookup x = some .local := by first | exact .inl rfl | exact .inr rfl | assumption) :
    PS X (.Assign [.Name x pos'] e pos) (tAsg te (gName i)) := by
  intro pins s σ H D I h
  refine wpAny_Assign_Name (thn (he pins s σ H _ I h) fun v s1 ⟨y, H1, I1, r1, q1⟩ => ?_) hs
  exact store_ok I1 hN hi hx r1 (fun s2 I2 => ⟨_, H1, I2, q1⟩) hf
end

section
variable {X : Cx} {pos : Pos}
noncomputable def tWhile (c : TT) (tb : TS) : TS := fun D σ H => ∃ W : Nat → St → Hp → Prop, (∃ m, W m σ H) ∧ ∀ m σ H, W m σ H →
  c σ H fun b H1 => if b = true then ∃ N : St → Hp → Prop, (∀ σ' H', N σ' H' → ∃ m', m' < m ∧ W m' σ' H') ∧ tb { D with nx := N, ct := N, bk := D.nx } σ H1 else D.nx σ H1
theorem ps_while {c : Expr} {body : List Stmt} {tc : TT} {tb : TS} (hp : PassesOwn (model X.prog X.w) X.A X.env X.xe) (hc : PT X c tc) (hb : PSs X body tb) : PS X (.While c body [] pos) (tWhile tc tb) := by
  intro pins s σ H D I h
  obtain ⟨W, ⟨m0, w0⟩, turn⟩ := h
  refine wpAny_While (codeAny_whileLoop (fun n s' => ∃ σ' H', Inv X pins σ' H' s' ∧ W n σ' H') ?_ m0 ⟨σ, H, I, w0⟩)
  rintro n s1 ⟨σ1, H1, I1, w1⟩
  refine wpAny_passesOwn hp (thn (hc pins s1 σ1 H1 _ I1 (turn n σ1 H1 w1)) fun b s2 ⟨H2, I2, q2⟩ => ?_)
  cases b with
  | true =>
    obtain ⟨N, hN, q2⟩ := q2
    rw [if_pos rfl]
    refine wpAny_passesOwn hp (thn (hb pins s2 σ1 H2 _ I2 q2) fun f s3 q3 => ?_)
    cases f with
    | next =>
      obtain ⟨σ3, H3, I3, n3⟩ := q3
      obtain ⟨m', hm, w3⟩ := hN σ3 H3 n3
      exact ⟨m', hm, σ3, H3, I3, w3⟩
    | cont =>
      obtain ⟨σ3, H3, I3, n3⟩ := q3
      obtain ⟨m', hm, w3⟩ := hN σ3 H3 n3
      exact ⟨m', hm, σ3, H3, I3, w3⟩
    | brk => exact q3
    | ret v => exact q3
  | false =>
    rw [if_neg Bool.false_ne_true]
    exact wpAny_execs_nil ⟨σ1, H2, I2, q2⟩
end

structure It where
  go : Nat → Hp → Prop
  yld : Nat → Hp → V → Hp → Prop
  stop : Nat → Hp → Prop
noncomputable def FpOk (X : Cx) (pins : List (Addr × Obj)) (H : Hp) (b : Addr) : Prop :=
  H b = none ∧ b ≠ X.env.locals ∧ b ∉ X.fs ∧ (b ∈ X.ex ∨ X.s_0.heap.objs.size ≤ b) ∧ (∀ x c, X.env.cells.lookup x = some c → c ≠ b) ∧ ∀ p ∈ X.pn ++ pins, p.1 ≠ b
theorem Inv.fpOk {X : Cx} {pins : List (Addr × Obj)} {σ : St} {H H' : Hp} {s : Shared} {b : Addr} (I : Inv X pins σ H s) (hb : s.heap.objs.size ≤ b) (hn : H' b = none) : FpOk X pins H' b := by
  refine ⟨hn, Nat.ne_of_gt (Nat.lt_of_lt_of_le I.lt hb), I.nofs hb, .inr (Nat.le_trans I.sz hb), fun x c e z => ?_, fun p hp z => ?_⟩
  · obtain ⟨v, q⟩ := I.cell x c e
    exact absurd (Nat.lt_of_lt_of_le q.lt (by rw [z]; exact hb)) (Nat.lt_irrefl _)
  · exact absurd (Nat.lt_of_lt_of_le (Heap.lt_size (I.pin p hp).1) (by rw [z]; exact hb)) (Nat.lt_irrefl _)
structure Turn (P : Program) (w : World) (K : PySem.W.Frag) (tg : Expr) (J : It) (fp : List Addr) (it : Addr) (tn : Nat → Heap → Prop) : Prop where
  mem : it ∈ fp
  obj : ∀ i h, tn i h → ∀ b ∈ fp, ∃ o, h.get? b = some o ∧ ∀ v, o.data ≠ .cell v
  keep : ∀ i h h', tn i h → (∀ b ∈ fp, ∀ o, h.get? b = some o → h'.get? b = some o) → tn i h'
  item : ∀ (X : Cx), X.prog = P → X.w = w → X.K = K → X.calm = true → ∀ (i : Nat) (pins : List (Addr × Obj)) (s : Shared) (σ : St) (H : Hp) (E : Value → Shared → Prop), Inv X pins σ H s → (∀ b ∈ fp, FpOk X pins H b) → tn i s.heap → J.go i H →
    wpAny (model P w) X.A (pyNext (.ref it)) (fun r s1 => ∃ u, r = some u ∧
      wpAny (model P w) X.A (letOwnedTupleGo tg (.ref it) u) (fun _ s2 => ∃ x H', Inv X pins σ H' s2 ∧ RelV x u ∧ J.yld i H x H' ∧ tn (i + 1) s2.heap ∧ ∀ b ∈ fp, H' b = none) E s1) E s
  done : ∀ (X : Cx), X.prog = P → X.w = w → X.K = K → X.calm = true → ∀ (i : Nat) (pins : List (Addr × Obj)) (s : Shared) (σ : St) (H : Hp) (E : Value → Shared → Prop), Inv X pins σ H s → (∀ b ∈ fp, FpOk X pins H b) → tn i s.heap → J.stop i H →
    wpAny (model P w) X.A (pyNext (.ref it)) (fun r s1 => r = none ∧ Inv X pins σ H s1) E s
  self : ∀ (A : Around) (i : Nat) (s : Shared) (Q : Value → Shared → Prop) (E : Value → Shared → Prop), tn i s.heap → Q (.ref it) s → wpAny (model P w) A (pyIter (.ref it)) Q E s
noncomputable abbrev TI := St → Hp → (It → Hp → Prop) → Prop
noncomputable def PIE (X : Cx) (pins : List (Addr × Obj)) (σ : St) (tg : Expr) (R : It → Hp → Prop) (itv : Value) (s2 : Shared) : Prop :=
  ∃ (it : Addr) (fp : List Addr) (tn : Nat → Heap → Prop) (J : It) (H' : Hp), itv = .ref it ∧ Inv X pins σ H' s2 ∧ Turn X.prog X.w X.K tg J fp it tn ∧ tn 0 s2.heap ∧ (∀ b ∈ fp, FpOk X pins H' b) ∧ R J H'
noncomputable def PI (X : Cx) (tg iter : Expr) (wi : TI) : Prop :=
  ∀ (pins : List (Addr × Obj)) (s : Shared) (σ : St) (H : Hp) (R : It → Hp → Prop), Inv X pins σ H s → wi σ H R →
    wpAny (model X.prog X.w) X.A (eval iter X.env) (fun v s1 => wpAny (model X.prog X.w) X.A (pyIter v) (PIE X pins σ tg R) X.xe s1) X.xe s

theorem go_of {M : Model} {A : Around} {E : Value → Shared → Prop} {s : Shared} {tg : Expr} {it : Addr} {u : Value} {o : Obj} {n : String} {vs : Array Value} {Q : Unit → Shared → Prop} (ho : s.heap.get? it = some o) (hc : o.cls = .type n) (hd : o.data = .fields vs)
    (hn : ["enumerate", "zip", "dict_itemiterator", "dict_reverseitemiterator", "odict_iterator", "itertools.zip_longest", "itertools.pairwise"].contains n = false) (hQ : Q () s) : wpAny M A (letOwnedTupleGo tg (.ref it) u) Q E s := by
  unfold letOwnedTupleGo
  cases tg <;> first
    | exact wpAny_pure hQ
    | (cases u <;> first
        | exact wpAny_pure hQ
        | (refine wpAny_bind (wpAny_load ho ?_)
           rw [hc, hd]
           show wpAny M A (if (["enumerate", "zip", "dict_itemiterator", "dict_reverseitemiterator", "odict_iterator", "itertools.zip_longest", "itertools.pairwise"].contains n && vs[0]? == some (rawInt _)) = true then _ else _) Q E s
           rw [if_neg (by intro h; rw [hn, Bool.false_and] at h; cases h)]
           exact wpAny_pure hQ))

noncomputable def Itl (K : PySem.W.Frag) (a : Addr) : It :=
  ⟨fun i H => ∃ xs x, SqL K H a xs ∧ xs[i]? = some x, fun i H x H' => H' = H ∧ ∀ xs, SqL K H a xs → xs[i]? = some x, fun i H => ∃ xs, SqL K H a xs ∧ xs.length ≤ i⟩
theorem turn_list {P : Program} {w : World} {K : PySem.W.Frag} {tg : Expr} (a it : Addr) : Turn P w K tg (Itl K a) [it] it (fun i h => h.IsListIter it a i) where
  mem := by simp
  obj := fun i h st b hb => by
    have e : b = it := by simpa using hb
    subst e
    obtain ⟨o, e, c, d⟩ := st
    exact ⟨o, e, fun v z => by rw [d] at z; cases z⟩
  keep := fun i h h' st k => st.at fun o e => k it (by simp) o e
  item := by
    intro X hP hw hK hc i pins s σ H E I hf st hg
    subst hP hw hK
    obtain ⟨xs, x, hq, hx⟩ := hg
    obtain ⟨its, rv, p, hz⟩ := I.list hq
    obtain ⟨u, hu, ru⟩ := rv.get hx
    obtain ⟨f0, f1, f2, f3, f4, f5⟩ := hf it (by simp)
    refine wpAny_pyNext_list_item st p.isList (x := u) (by simpa using hu) fun h' st' sb => ?_
    have I1 : Inv X pins σ H { s with heap := h' } := I.turned (t' := s.toks) (fun b o hb e => (sb.2 b hb).trans e) f0 f1 f3 f4 f5
    obtain ⟨o, e, c, d⟩ := id st'
    exact ⟨u, rfl, go_of (s := { s with heap := h' }) e c d (by decide) ⟨x, H, I1, ru, ⟨rfl, fun ys hy => by rw [I.list_inj hy hq]; exact hx⟩, st', fun b hb => (hf b hb).1⟩⟩
  done := by
    intro X hP hw hK hc i pins s σ H E I hf st hg
    subst hP hw hK
    obtain ⟨xs, hq, hx⟩ := hg
    obtain ⟨its, rv, p, hz⟩ := I.list hq
    obtain ⟨f0, f1, f2, f3, f4, f5⟩ := hf it (by simp)
    have hl := rv.length
    exact wpAny_pyNext_list_end (I.ok.hd hc) st p.isList (by simp; omega) fun h' eb => ⟨rfl, I.turned (t' := s.toks) (fun b o hb e => eb b o hb e) f0 f1 f3 f4 f5⟩
  self := fun _ _ _ _ _ st h => wpAny_pyIter_listiter st h
end L2

namespace L2
open PySem PySem.Spec PyProof.Rows
section
variable {X : Cx} {tg : Expr}
noncomputable def iList (K : PySem.W.Frag) (tl : TE) : TI := fun σ H R => tl σ H fun x H1 => ∃ a, x = .ref a ∧ (∃ xs, SqL K H1 a xs) ∧ R (Itl K a) H1
theorem pi_list {l : Expr} {tl : TE} (hl : PE X l tl) : PI X tg l (iList X.K tl) := by
  intro pins s σ H R I h
  refine thn (hl pins s σ H _ I h) fun v s1 ⟨x, H1, I1, r1, q1⟩ => ?_
  obtain ⟨a, e, ⟨xs, hq⟩, q⟩ := q1
  subst e
  cases r1
  obtain ⟨its, rv, p, hz⟩ := I1.list hq
  refine wpAny_pyIter_list p.isList ?_
  refine ⟨s1.heap.objs.size, [s1.heap.objs.size], _, _, H1, rfl, I1.kept (t' := s1.toks) fun b o e => Heap.get?_push_of_some _ e, turn_list a _, ⟨_, Heap.get?_push_size _ rfl, rfl, rfl⟩, fun b hb => ?_, q⟩
  have e : b = s1.heap.objs.size := by simpa using hb
  subst e
  exact I1.fpOk (Nat.le_refl _) (I1.hok.fresh (Nat.le_refl _))
noncomputable def tFor (wi : TI) (g : TG) (tb : TS) : TS := fun D σ H => wi σ H fun J H1 => ∃ W : Nat → Nat → St → Hp → Prop, (∃ m, W 0 m σ H1) ∧ ∀ i m σ H, W i m σ H →
  (J.stop i H ∧ D.nx σ H) ∨ (J.go i H ∧ ∃ N : St → Hp → Prop, (∀ σ' H', N σ' H' → ∃ m', m' < m ∧ W (i + 1) m' σ' H') ∧ ∀ x H', J.yld i H x H' → g x σ H' fun σ2 H2 => tb { D with nx := N, ct := N, bk := D.nx } σ2 H2)
noncomputable def pinsAt (fp : List Addr) (h : Heap) : List (Addr × Obj) := fp.filterMap fun b => (h.get? b).map fun o => (b, o)
theorem mem_pinsAt {fp : List Addr} {h : Heap} {b : Addr} {o : Obj} (hb : b ∈ fp) (e : h.get? b = some o) : (b, o) ∈ pinsAt fp h := List.mem_filterMap.mpr ⟨b, hb, by rw [e]; rfl⟩
theorem of_pinsAt {fp : List Addr} {h : Heap} {p : Addr × Obj} (hp : p ∈ pinsAt fp h) : p.1 ∈ fp ∧ h.get? p.1 = some p.2 := by
  obtain ⟨b, hb, e⟩ := List.mem_filterMap.mp hp
  cases q : h.get? b with
  | none => rw [q] at e; cases e
  | some o =>
    rw [q] at e
    have e' : (b, o) = p := Option.some.inj e
    subst e'
    exact ⟨hb, q⟩
theorem Inv.pinned {pins : List (Addr × Obj)} {σ : St} {H : Hp} {s : Shared} {fp : List Addr} (I : Inv X pins σ H s) (hf : ∀ b ∈ fp, FpOk X pins H b) (ho : ∀ b ∈ fp, ∃ o, s.heap.get? b = some o ∧ ∀ v, o.data ≠ .cell v) : Inv X (pins ++ pinsAt fp s.heap) σ H s :=
  I.pins_of fun p hp => (List.mem_append.mp hp).elim (fun z => I.pin p (List.mem_append_right _ z)) fun z => by
    obtain ⟨hb, e⟩ := of_pinsAt z
    obtain ⟨f0, f1, f2, _⟩ := hf p.1 hb
    obtain ⟨o, e', d⟩ := ho p.1 hb
    rw [e] at e'; cases e'
    exact ⟨e, f0, f1, f2, d⟩
theorem Inv.unpinned {pins pl : List (Addr × Obj)} {σ : St} {H : Hp} {s : Shared} (I : Inv X (pins ++ pl) σ H s) : Inv X pins σ H s := I.pins_of fun p hp => I.pin p (List.mem_append_right _ (List.mem_append_left _ hp))
theorem ps_for {iter : Expr} {body : List Stmt} {wi : TI} {g : TG} {tb : TS} {pos : Pos} (hp : PassesOwn (model X.prog X.w) X.A X.env X.xe) (hc : X.calm = true) (hi : PI X tg iter wi) (hg : PG X tg g) (hb : PSs X body tb)
    (hs : ∀ x, foldedSetIterable iter X.env x = pure x := by intro _; rfl) : PS X (.For tg iter body [] pos) (tFor wi g tb) := by
  intro pins s σ H D I h
  refine wpAny_For (thn (hi pins s σ H _ I h) fun v s1 h1 => thn h1 fun itv s2 h2 => ?_) hs
  obtain ⟨it, fp, tn, J, H2, e, I2, T, st2, f2, W, ⟨m0, w0⟩, turn⟩ := h2
  subst e
  -- what stays true of the iterator's objects through the loop
  have stat : ∀ {H' : Hp}, (∀ b ∈ fp, H' b = none) → ∀ b ∈ fp, FpOk X pins H' b := fun hn b hb => ⟨hn b hb, (f2 b hb).2⟩
  refine codeAny_forLoop_any (fun n s' => ∃ i σ' H', Inv X pins σ' H' s' ∧ tn i s'.heap ∧ (∀ b ∈ fp, H' b = none) ∧ W i n σ' H') ?_ m0 ⟨0, σ, H2, I2, st2, fun b hb => (f2 b hb).1, w0⟩
  rintro n s3 ⟨i, σ3, H3, I3, st3, fr3, w3⟩
  rcases turn i n σ3 H3 w3 with ⟨stop, qn⟩ | ⟨go, N, hN, step⟩
  · refine wpAny_passesOwn hp (thn (T.done X rfl rfl rfl hc i pins s3 σ3 H3 X.xe I3 (stat fr3) st3 stop) fun r s4 ⟨hr, I4⟩ => ?_)
    subst hr
    exact wpAny_execs_nil ⟨σ3, H3, I4, qn⟩
  · refine wpAny_passesOwn hp (thn (T.item X rfl rfl rfl hc i pins s3 σ3 H3 X.xe I3 (stat fr3) st3 go) fun r s4 ⟨u, hr, h4⟩ => ?_)
    subst hr
    refine wpAny_passesOwn hp (thn h4 fun _ s5 ⟨x, H5, I5, r5, y5, st5, fr5⟩ => ?_)
    have I5' := I5.pinned (stat fr5) (T.obj _ _ st5)
    refine wpAny_passesOwn hp (thn (hg _ s5 σ3 H5 x u _ I5' r5 (step x H5 y5)) fun _ s6 ⟨σ6, H6, I6, q6⟩ => ?_)
    refine wpAny_passesOwn hp (thn (hb _ s6 σ6 H6 _ I6 q6) fun f s7 q7 => ?_)
    have again : ∀ {σ7 : St} {H7 : Hp}, Inv X (pins ++ pinsAt fp s5.heap) σ7 H7 s7 → N σ7 H7 → ∃ m, m < n ∧ ∃ i σ' H', Inv X pins σ' H' s7 ∧ tn i s7.heap ∧ (∀ b ∈ fp, H' b = none) ∧ W i m σ' H' := fun {σ7 H7} I7 n7 => by
      obtain ⟨m', hm, w7⟩ := hN σ7 H7 n7
      refine ⟨m', hm, i + 1, σ7, H7, I7.unpinned, T.keep _ _ _ st5 fun b hb o e => (I7.pin (b, o) (List.mem_append_right _ (List.mem_append_right _ (mem_pinsAt hb e)))).1, fun b hb => ?_, w7⟩
      obtain ⟨o, e, d⟩ := T.obj _ _ st5 b hb
      exact (I7.pin (b, o) (List.mem_append_right _ (List.mem_append_right _ (mem_pinsAt hb e)))).2.1
    cases f with
    | next => obtain ⟨σ7, H7, I7, n7⟩ := q7; exact again I7 n7
    | cont => obtain ⟨σ7, H7, I7, n7⟩ := q7; exact again I7 n7
    | brk => obtain ⟨σ7, H7, I7, q7⟩ := q7; exact ⟨σ7, H7, I7.unpinned, q7⟩
    | ret v => obtain ⟨x7, σ7, H7, I7, r7, q7⟩ := q7; exact ⟨x7, σ7, H7, I7.unpinned, r7, q7⟩
end

theorem for_list {K : PySem.W.Frag} {a : Addr} {xs : List V} {g : TG} {tb : TS} {D : Ends} {σ : St} {H : Hp} (Pv : Nat → St → Hp → Prop) (h0 : Pv 0 σ H) (hl : ∀ i σ H, i ≤ xs.length → Pv i σ H → SqL K H a xs)
    (hs : ∀ i x σ H, xs[i]? = some x → Pv i σ H → g x σ H fun σ2 H2 => tb { D with nx := Pv (i + 1), ct := Pv (i + 1), bk := D.nx } σ2 H2) (hd : ∀ σ H, Pv xs.length σ H → D.nx σ H) :
    ∃ W : Nat → Nat → St → Hp → Prop, (∃ m, W 0 m σ H) ∧ ∀ i m σ H, W i m σ H →
      ((Itl K a).stop i H ∧ D.nx σ H) ∨ ((Itl K a).go i H ∧ ∃ N : St → Hp → Prop, (∀ σ' H', N σ' H' → ∃ m', m' < m ∧ W (i + 1) m' σ' H') ∧ ∀ x H', (Itl K a).yld i H x H' → g x σ H' fun σ2 H2 => tb { D with nx := N, ct := N, bk := D.nx } σ2 H2) := by
  refine ⟨fun i m σ H => m = xs.length - i ∧ i ≤ xs.length ∧ Pv i σ H, ⟨xs.length, by simp, Nat.zero_le _, h0⟩, ?_⟩
  rintro i m σ H ⟨rfl, hi, p⟩
  have q := hl i σ H hi p
  by_cases hlt : i < xs.length
  · refine .inr ⟨⟨xs, xs[i], q, by simp [hlt]⟩, Pv (i + 1), fun σ' H' p' => ⟨xs.length - (i + 1), by omega, rfl, hlt, p'⟩, fun x H' y => ?_⟩
    obtain ⟨e, y⟩ := y
    subst e
    exact hs i x σ _ (y xs q) p
  · have e : i = xs.length := by omega
    subst e
    exact .inl ⟨⟨xs, q, Nat.le_refl _⟩, hd σ H p⟩
theorem while_by {c : TT} {tb : TS} {D : Ends} {σ : St} {H : Hp} (Pv : St → Hp → Prop) (μ : St → Hp → Nat) (h0 : Pv σ H)
    (hs : ∀ σ H, Pv σ H → c σ H fun b H1 => if b = true then tb { D with nx := fun σ' H' => Pv σ' H' ∧ μ σ' H' < μ σ H, ct := fun σ' H' => Pv σ' H' ∧ μ σ' H' < μ σ H, bk := D.nx } σ H1 else D.nx σ H1)
    (mono : ∀ σ H Q Q', (∀ b H1, Q b H1 → Q' b H1) → c σ H Q → c σ H Q') : tWhile c tb D σ H := by
  refine ⟨fun m σ H => m = μ σ H ∧ Pv σ H, ⟨_, rfl, h0⟩, ?_⟩
  rintro m σ H ⟨rfl, p⟩
  refine mono σ H _ _ (fun b H1 q => ?_) (hs σ H p)
  cases b with
  | true => exact ⟨_, fun σ' H' ⟨p', l⟩ => ⟨_, l, rfl, p'⟩, q⟩
  | false => exact q
end L2

namespace L2
open PySem PySem.Spec PyProof.Rows

noncomputable abbrev R2 := V → V → Hp → VK → Prop
noncomputable def OpR (X : Cx) (f : Value → Value → Sem Value) (r : R2) : Prop :=
  ∀ (pins : List (Addr × Obj)) (s : Shared) (σ : St) (H : Hp) (x y : V) (v u : Value) (Q : VK), Inv X pins σ H s → RelV x v → RelV y u → r x y H Q →
    wpAny (model X.prog X.w) X.A (f v u) (EP X pins σ Q) X.xe s
noncomputable def UnR (X : Cx) (f : Value → Sem Value) (r : V → Hp → VK → Prop) : Prop :=
  ∀ (pins : List (Addr × Obj)) (s : Shared) (σ : St) (H : Hp) (x : V) (v : Value) (Q : VK), Inv X pins σ H s → RelV x v → r x H Q →
    wpAny (model X.prog X.w) X.A (f v) (EP X pins σ Q) X.xe s
noncomputable def CallR (X : Cx) (f : Value) (r : List V → Hp → VK → Prop) : Prop :=
  ∀ (pins : List (Addr × Obj)) (s : Shared) (σ : St) (H : Hp) (xs : List V) (us : List Value) (Q : VK), Inv X pins σ H s → Vals xs us → r xs H Q →
    wpAny (model X.prog X.w) X.A (call f us) (EP X pins σ Q) X.xe s
noncomputable def tOp (r : R2) (ta tb : TE) : TE := fun σ H Q => ta σ H fun x H1 => tb σ H1 fun y H2 => r x y H2 Q
noncomputable def tUn (r : V → Hp → VK → Prop) (ta : TE) : TE := fun σ H Q => ta σ H fun x H1 => r x H1 Q
noncomputable def rI (C : Int → Int → Prop) (g : Int → Int → V) : R2 := fun x y H Q => ∃ i j, x = .int i ∧ y = .int j ∧ C i j ∧ Q (g i j) H
noncomputable def rI0 (g : Int → Int → V) : R2 := fun x y H Q => ∃ i j, x = .int i ∧ y = .int j ∧ Q (g i j) H
noncomputable def rU (g : Int → V) : V → Hp → VK → Prop := fun x H Q => ∃ i, x = .int i ∧ Q (g i) H

section
variable {X : Cx} {a b c : Expr} {ta tb tc : TE} {pos : Pos}

theorem binT (ha : PE X a ta) (hb : PE X b tb) {pins : List (Addr × Obj)} {s : Shared} {σ : St} {H : Hp} {R : V → V → Hp → Prop} (I : Inv X pins σ H s)
    (h : ta σ H fun x H1 => tb σ H1 fun y H2 => R x y H2) {Q : Value → Shared → Prop} {f : Value → Value → Sem Value}
    (hf : ∀ v u s2 x y H2, Inv X pins σ H2 s2 → RelV x v → RelV y u → R x y H2 → wpAny (model X.prog X.w) X.A (f v u) Q X.xe s2) :
    wpAny (model X.prog X.w) X.A (eval a X.env) (fun v s₁ => wpAny (model X.prog X.w) X.A (eval b X.env) (fun u s₂ => wpAny (model X.prog X.w) X.A (f v u) Q X.xe s₂) X.xe s₁) X.xe s := by
  refine thn (ha pins s σ H _ I h) fun v s1 ⟨x, H1, I1, r1, q1⟩ => ?_
  refine thn (hb pins s1 σ H1 _ I1 q1) fun u s2 ⟨y, H2, I2, r2, q2⟩ => ?_
  exact hf v u s2 x y H2 I2 r1 r2 q2

theorem pe_op {op : Operator} {r : R2} (ho : OpR X (binaryOp op) r) (ha : PE X a ta) (hb : PE X b tb) : PE X (.BinOp a op b pos) (tOp r ta tb) := by
  intro pins s σ H Q I h
  exact wpAny_BinOp (binT ha hb I h fun v u s2 x y H2 I2 rx ry q => ho pins s2 σ H2 x y v u Q I2 rx ry q)
theorem pe_un {op : UnaryOp} {r : V → Hp → VK → Prop} (ho : UnR X (unaryOp op) r) (ha : PE X a ta) : PE X (.UnaryOp op a pos) (tUn r ta) := by
  intro pins s σ H Q I h
  exact UnaryOp_ (thn (ha pins s σ H _ I h) fun v s1 ⟨x, H1, I1, r1, q1⟩ => ho pins s1 σ H1 x v Q I1 r1 q1)
theorem opI {f : Value → Value → Sem Value} {C : Int → Int → Prop} {g : Int → Int → Int}
    (rule : ∀ (i j : Int) (t u : Tok) (s : Shared) (Q : Value → Shared → Prop) (E : Value → Shared → Prop), C i j → Q (.int (g i j) s.toks) { s with toks := s.toks + 1 } → wpAny (model X.prog X.w) X.A (f (.int i t) (.int j u)) Q E s) :
    OpR X f (rI C fun i j => .int (g i j)) := by
  intro pins s σ H x y v u Q I rx ry h
  obtain ⟨i, j, rfl, rfl, hc, q⟩ := h
  obtain ⟨t, rfl⟩ := rx
  obtain ⟨t', rfl⟩ := ry
  exact rule i j t t' s _ _ hc ⟨.int (g i j), H, I.tok _, ⟨_, rfl⟩, q⟩
theorem opI0 {f : Value → Value → Sem Value} {g : Int → Int → Int}
    (rule : ∀ (i j : Int) (t u : Tok) (s : Shared) (Q : Value → Shared → Prop) (E : Value → Shared → Prop), Q (.int (g i j) s.toks) { s with toks := s.toks + 1 } → wpAny (model X.prog X.w) X.A (f (.int i t) (.int j u)) Q E s) :
    OpR X f (rI0 fun i j => .int (g i j)) := by
  intro pins s σ H x y v u Q I rx ry h
  obtain ⟨i, j, rfl, rfl, q⟩ := h
  obtain ⟨t, rfl⟩ := rx
  obtain ⟨t', rfl⟩ := ry
  exact rule i j t t' s _ _ ⟨.int (g i j), H, I.tok _, ⟨_, rfl⟩, q⟩
theorem opB0 {f : Value → Value → Sem Value} {g : Int → Int → Bool}
    (rule : ∀ (i j : Int) (t u : Tok) (s : Shared) (Q : Value → Shared → Prop) (E : Value → Shared → Prop), Q (.bool (g i j)) s → wpAny (model X.prog X.w) X.A (f (.int i t) (.int j u)) Q E s) :
    OpR X f (rI0 fun i j => .bl (g i j)) := by
  intro pins s σ H x y v u Q I rx ry h
  obtain ⟨i, j, rfl, rfl, q⟩ := h
  obtain ⟨t, rfl⟩ := rx
  obtain ⟨t', rfl⟩ := ry
  exact rule i j t t' s _ _ ⟨.bl (g i j), H, I, rfl, q⟩

noncomputable def CMul (i j : Int) : Prop := (-(2 ^ 64) < i ∧ i < 2 ^ 64) ∨ (-(2 ^ 64) < j ∧ j < 2 ^ 64)
theorem CMul.ok {i j : Int} (h : CMul i j) : IntMulOk i j := by
  rcases h with ⟨h1, h2⟩ | ⟨h1, h2⟩
  · exact .of_left (intBits_le_64 h1 h2)
  · exact .of_right (intBits_le_64 h1 h2)
theorem op_add : OpR X (binaryOp .Add) (rI0 fun i j => .int (i + j)) := opI0 fun _ _ _ _ _ _ _ q => add_int q
theorem op_sub : OpR X (binaryOp .Sub) (rI0 fun i j => .int (i - j)) := opI0 fun _ _ _ _ _ _ _ q => sub_int q
theorem op_mul : OpR X (binaryOp .Mult) (rI CMul fun i j => .int (i * j)) := opI fun _ _ _ _ _ _ _ hc q => mul_int q hc.ok
theorem op_mod : OpR X (binaryOp .Mod) (rI (fun _ j => 0 < j) fun i j => .int (i % j)) := opI fun i j _ _ _ _ _ hc q => by
  have h1 : (0 : Int) < j := hc
  exact mod_int' (by omega) (by rw [Int.fmod_eq_emod_of_nonneg i (by omega)]; exact q)
theorem unI {f : Value → Sem Value} {g : Int → Int}
    (rule : ∀ (i : Int) (t : Tok) (s : Shared) (Q : Value → Shared → Prop) (E : Value → Shared → Prop), Q (.int (g i) s.toks) { s with toks := s.toks + 1 } → wpAny (model X.prog X.w) X.A (f (.int i t)) Q E s) :
    UnR X f (rU fun i => .int (g i)) := by
  intro pins s σ H x v Q I rx h
  obtain ⟨i, rfl, q⟩ := h
  obtain ⟨t, rfl⟩ := rx
  exact rule i t s _ _ ⟨.int (g i), H, I.tok _, ⟨_, rfl⟩, q⟩
theorem un_neg : UnR X (unaryOp .USub) (rU fun i => .int (-i)) := unI fun _ _ _ _ _ q => neg_int q
end

noncomputable def scal : V → V → Bool
  | .non, .non => true | .non, .int _ => true | .int _, .non => true | .non, .bl _ => true | .bl _, .non => true | .non, .str _ => true | .str _, .non => true
  | .int _, .int _ => true | .bl _, .bl _ => true | .str _, .str _ => true | .byt _, .byt _ => true
  | .int _, .str _ => true | .str _, .int _ => true | .bl _, .str _ => true | .str _, .bl _ => true
  | _, _ => false
noncomputable def rEq : R2 := fun x y H Q => scal x y = true ∧ Q (.bl (decide (x = y))) H
noncomputable def rNe : R2 := fun x y H Q => scal x y = true ∧ Q (.bl (!decide (x = y))) H

theorem dec_int {i j : Int} : decide (V.int i = V.int j) = (i == j) := by
  rw [Bool.eq_iff_iff]
  simp
theorem dec_bl {i j : Bool} : decide (V.bl i = V.bl j) = (i == j) := by
  rw [Bool.eq_iff_iff]
  simp
theorem dec_str {i j : Str} : decide (V.str i = V.str j) = (i == j) := by
  rw [Bool.eq_iff_iff]
  simp
theorem dec_byt {i j : Array UInt8} : decide (V.byt i = V.byt j) = (i.toList == j.toList) := by
  rw [Bool.eq_iff_iff]
  cases i
  cases j
  simp

section
variable {X : Cx} {a b c : Expr} {ta tb tc : TE} {pos : Pos}
theorem fin_bl {pins : List (Addr × Obj)} {σ : St} {H : Hp} {s : Shared} {Q : VK} {k k' : Bool} (I : Inv X pins σ H s) (q : Q (.bl k) H) (e : k = k') : EP X pins σ Q (.bool k') s := by
  subst e
  exact ⟨.bl k, H, I, rfl, q⟩
theorem op_eq : OpR X (compareOp .Eq) rEq := by
  intro pins s σ H x y v u Q I rx ry h
  obtain ⟨hs, q⟩ := h
  cases x with
  | non =>
    cases rx
    cases y with
    | non => cases ry; exact PySem.EqNone.eq_none_none (fin_bl I q (by simp))
    | bl j => cases ry; exact PySem.EqNone.eq_none_bool (fin_bl I q (by simp))
    | int j => obtain ⟨t', rfl⟩ := ry; exact PySem.EqNone.eq_none_int (fin_bl I q (by simp))
    | str j => obtain ⟨t', rfl⟩ := ry; exact PySem.EqNone.eq_none_str (fin_bl I q (by simp))
    | _ => exact absurd (show false = true from hs) Bool.false_ne_true
  | bl i =>
    cases rx
    cases y with
    | non => cases ry; exact PySem.EqNone.eq_bool_none (fin_bl I q (by simp))
    | bl j => cases ry; exact eq_bool (fin_bl I q dec_bl)
    | str j => obtain ⟨t', rfl⟩ := ry; exact PySem.EqMixed.eq_bool_str (fin_bl I q (by simp))
    | _ => exact absurd (show false = true from hs) Bool.false_ne_true
  | int i =>
    obtain ⟨t, rfl⟩ := rx
    cases y with
    | non => cases ry; exact PySem.EqNone.eq_int_none (fin_bl I q (by simp))
    | int j => obtain ⟨t', rfl⟩ := ry; exact eq_int (fin_bl I q dec_int)
    | str j => obtain ⟨t', rfl⟩ := ry; exact PySem.EqMixed.eq_int_str (fin_bl I q (by simp))
    | _ => exact absurd (show false = true from hs) Bool.false_ne_true
  | str i =>
    obtain ⟨t, rfl⟩ := rx
    cases y with
    | non => cases ry; exact PySem.EqNone.eq_str_none (fin_bl I q (by simp))
    | bl j => cases ry; exact PySem.EqMixed.eq_str_bool (fin_bl I q (by simp))
    | int j => obtain ⟨t', rfl⟩ := ry; exact PySem.EqMixed.eq_str_int (fin_bl I q (by simp))
    | str j => obtain ⟨t', rfl⟩ := ry; exact eq_str (fin_bl I q dec_str)
    | _ => exact absurd (show false = true from hs) Bool.false_ne_true
  | byt i =>
    obtain ⟨t, rfl⟩ := rx
    cases y with
    | byt j => obtain ⟨t', rfl⟩ := ry; exact PySem.W.eq_bytes (fin_bl I q dec_byt)
    | _ => exact absurd (show false = true from hs) Bool.false_ne_true
  | _ => cases y <;> exact absurd (show false = true from hs) Bool.false_ne_true
theorem op_ne : OpR X (compareOp .NotEq) rNe := by
  intro pins s σ H x y v u Q I rx ry h
  obtain ⟨hs, q⟩ := h
  cases x with
  | non =>
    cases rx
    cases y with
    | non => cases ry; exact PySem.EqNone.ne_none_none (fin_bl I q (by simp))
    | bl j => cases ry; exact PySem.EqNone.ne_none_bool (fin_bl I q (by simp))
    | int j => obtain ⟨t', rfl⟩ := ry; exact PySem.EqNone.ne_none_int (fin_bl I q (by simp))
    | str j => obtain ⟨t', rfl⟩ := ry; exact PySem.EqNone.ne_none_str (fin_bl I q (by simp))
    | _ => exact absurd (show false = true from hs) Bool.false_ne_true
  | bl i =>
    cases rx
    cases y with
    | non => cases ry; exact PySem.EqNone.ne_bool_none (fin_bl I q (by simp))
    | bl j => cases ry; exact ne_bool (fin_bl I q (congrArg not dec_bl))
    | str j => obtain ⟨t', rfl⟩ := ry; exact PySem.EqMixed.ne_bool_str (fin_bl I q (by simp))
    | _ => exact absurd (show false = true from hs) Bool.false_ne_true
  | int i =>
    obtain ⟨t, rfl⟩ := rx
    cases y with
    | non => cases ry; exact PySem.EqNone.ne_int_none (fin_bl I q (by simp))
    | int j => obtain ⟨t', rfl⟩ := ry; exact ne_int (fin_bl I q (congrArg not dec_int))
    | str j => obtain ⟨t', rfl⟩ := ry; exact PySem.EqMixed.ne_int_str (fin_bl I q (by simp))
    | _ => exact absurd (show false = true from hs) Bool.false_ne_true
  | str i =>
    obtain ⟨t, rfl⟩ := rx
    cases y with
    | non => cases ry; exact PySem.EqNone.ne_str_none (fin_bl I q (by simp))
    | bl j => cases ry; exact PySem.EqMixed.ne_str_bool (fin_bl I q (by simp))
    | int j => obtain ⟨t', rfl⟩ := ry; exact PySem.EqMixed.ne_str_int (fin_bl I q (by simp))
    | str j => obtain ⟨t', rfl⟩ := ry; exact ne_str (fin_bl I q (congrArg not dec_str))
    | _ => exact absurd (show false = true from hs) Bool.false_ne_true
  | byt i =>
    obtain ⟨t, rfl⟩ := rx
    cases y with
    | byt j => obtain ⟨t', rfl⟩ := ry; exact PySem.W.ne_bytes (fin_bl I q (congrArg not dec_byt))
    | _ => exact absurd (show false = true from hs) Bool.false_ne_true
  | _ => cases y <;> exact absurd (show false = true from hs) Bool.false_ne_true

theorem op_lt : OpR X (compareOp .Lt) (rI0 fun i j => .bl (decide (i < j))) := opB0 fun _ _ _ _ _ _ _ q => lt_int q
theorem op_le : OpR X (compareOp .LtE) (rI0 fun i j => .bl (decide (i ≤ j))) := opB0 fun _ _ _ _ _ _ _ q => le_int q
theorem op_gt : OpR X (compareOp .Gt) (rI0 fun i j => .bl (decide (j < i))) := opB0 fun _ _ _ _ _ _ _ q => gt_int q
theorem nomark (b : Expr) {op : CmpOp} (h : op ≠ .In := by decide) (h2 : op ≠ .NotIn := by decide) : behindInMarks op b = false := by
  have e1 : (op == CmpOp.In) = false := by cases op <;> first | rfl | exact absurd rfl h
  have e2 : (op == CmpOp.NotIn) = false := by cases op <;> first | rfl | exact absurd rfl h2
  cases b <;> simp [behindInMarks, e1, e2]
theorem pe_cmpR {op : CmpOp} {r : R2} (ho : OpR X (compareOp op) r) (ha : PE X a ta) (hb : PE X b tb) (hm : behindInMarks op b = false) : PE X (.Compare a [op] [b] pos) (tOp r ta tb) := by
  intro pins s σ H Q I h
  exact wpAny_Compare1 (binT ha hb I h fun v u s2 x y H2 I2 rx ry q => ho pins s2 σ H2 x y v u Q I2 rx ry q) hm
noncomputable def tTest (t : TE) : TT := fun σ H Q => t σ H fun x H' => ∃ k, x = .bl k ∧ Q k H'
theorem pt_cmpR {op : CmpOp} {r : R2} (ho : OpR X (compareOp op) r) (ha : PE X a ta) (hb : PE X b tb) (hm : behindInMarks op b = false) : PT X (.Compare a [op] [b] pos) (tTest (tOp r ta tb)) := by
  intro pins s σ H Q I h
  refine wpAny_isTrue_Compare1 (thn (ha pins s σ H _ I h) fun v s1 ⟨x, H1, I1, r1, q1⟩ => thn (hb pins s1 σ H1 _ I1 q1) fun u s2 ⟨y, H2, I2, r2, q2⟩ =>
    thn (ho pins s2 σ H2 x y v u _ I2 r1 r2 q2) fun c s3 ⟨z, H3, I3, r3, k, e, q3⟩ => ?_) hm
  subst e
  cases r3
  exact wpAny_truthy_bool ⟨H3, I3, q3⟩
theorem line63 : (sizeLine : Nat) < 2 ^ 63 := by rw [sizeLine_eq]; decide
theorem vals1 {x : V} {us : List Value} (r : Vals [x] us) : ∃ u, us = [u] ∧ RelV x u := by
  cases r with
  | cons r1 r2 => cases r2; exact ⟨_, rfl, r1⟩
theorem call_abs : CallR X (.builtin "abs") (fun xs H Q => ∃ i, xs = [.int i] ∧ Q (.int (if i < 0 then -i else i)) H) := by
  intro pins s σ H xs us Q I r h
  obtain ⟨i, rfl, q⟩ := h
  obtain ⟨u, rfl, t, rfl⟩ := vals1 r
  exact call_abs_int fun u tk => ⟨.int (if i < 0 then -i else i), H, I.tok _, ⟨_, rfl⟩, q⟩
end
end L2

namespace L2
open PySem PySem.Spec PyProof.Rows

structure ObjM (h : Heap) (x dx C : Addr) (mA : Str → Option Value) : Prop where
  obj : h.get? x = some (PySem.W.instObj C dx)
  ns : h.Ns1 dx mA
  ne : dx ≠ x

theorem lookIn_ns {h : Heap} {dx : Addr} {mA : Str → Option Value} (n : h.Ns1 dx mA) : ∃ od, h.get? dx = some od ∧ ∀ name, PySem.W.lookIn name od = some (mA name) := by
  obtain ⟨o, es, ep, ho, hd, hk, _, hm⟩ := n
  refine ⟨o, ho, fun name => ?_⟩
  have e := hm name
  unfold nsFind findBy at e
  rw [← Array.find?_toList] at e
  unfold PySem.W.lookIn
  rw [hd]
  dsimp only
  split
  · rename_i y q
    rw [q] at e
    exact congrArg some e
  · rename_i q
    rw [q] at e
    have a : es.toList.any (·.refKey) = false := by
      rw [List.any_eq_false]
      intro y hy
      obtain ⟨z, t, hkey⟩ := hk y (Array.mem_toList_iff.mp hy)
      simp [DictEntry.refKey, hkey]
    have a' : ¬ es.toList.any (·.refKey) = true := by rw [a]; exact Bool.false_ne_true
    rw [if_neg a']
    exact congrArg some e

theorem ObjM.look {h : Heap} {x dx C : Addr} {mA : Str → Option Value} (I : ObjM h x dx C mA) : ∃ od, PySem.W.InstAt h x (PySem.W.instObj C dx) C (some od) ∧ ∀ name, PySem.W.lookIn name od = some (mA name) :=
  let ⟨od, ho, hl⟩ := lookIn_ns I.ns
  ⟨od, ⟨I.obj, rfl, rfl, ho⟩, hl⟩

section
variable {prog : Program} {w : World} {A : Around} {E : Value → Shared → Prop} {s : Shared} {K : PySem.W.Frag} {x dx C f : Addr} {mA : Str → Option Value} {name : Str} {v : Value}

theorem get_map {expr : Bool} {Q : Value → Shared → Prop} (X : K.In s.heap) (I : ObjM s.heap x dx C mA) (hg : PySem.W.plainGet K C name = true) (hh : PySem.W.hasDictIn K C = true)
    (ha : PySem.W.findIn K (.ref C) name = some none) (hv : mA name = some v) (hv' : PySem.W.handedIn v = true) (h : Q v { s with toks := s.toks + 1 }) :
    wpAny (model prog w) A (getAttr (.ref x) name expr) Q E s := by
  obtain ⟨od, J, hl⟩ := I.look
  exact PySem.W.get_value X J (PySem.W.plainGet_of hg).1 (PySem.W.findObj_own hh ha rfl (by rw [hl, hv])) hv' h

theorem set_map {ns : List Str} {Q : Unit → Shared → Prop} (X : K.In s.heap) (I : ObjM s.heap x dx C mA)
    (hs : PySem.W.findIn K (.ref C) "__setattr__" = some (some (.builtin "object.__setattr__"))) (hp : PySem.W.plainOver K C = true) (ht : PySem.W.takerIn K C name = some none) (hh : PySem.W.hasDictIn K C = true)
    (hw : PySem.Within mA ns) (hsz : ns.length ≤ sizeLine)
    (h : ∀ h', ObjM h' x dx C (fun y => if y = name then some v else mA y) → Heap.SameBut dx s.heap h' → Q () { s with heap := h', toks := s.toks + 2 }) :
    wpAny (model prog w) A (setAttr (.ref x) name v) Q E s := by
  obtain ⟨od, J, hl⟩ := I.look
  refine PySem.W.set_plain X J hs (PySem.W.osa_open (s := { s with toks := s.toks + 1 }) (r := none) X J hp ht fun b => ?_)
  obtain ⟨cd, hc, hd'⟩ := PySem.W.any_some hh
  have hx : s.heap.get? x = some ⟨.ref C, some dx, .plain, #[]⟩ := I.obj
  refine wpAny_bind (wpAny_pure (wpAny_bind (wpAny_bind (wpAny_loadPart hx (wpAny_bind (PySem.W.Looks.here (s := { s with toks := s.toks + 1 }) (PySem.W.looks_clsIn X hc) ?_))))))
  rw [hd']
  refine wpAny_pure (a := some dx) (wpAny_bind (wpAny_pure (wpAny_bind ?_)))
  refine wpAny_nsSet1 (s := { s with toks := s.toks + 1 }) I.ns fun h' hn2 hs2 => ?_
  obtain ⟨oD, esD, epD, hoD, hdD, hcD⟩ := hn2.count (PySem.Within.cons name v hw)
  refine wpAny_bind (wpAny_lookBehind hoD (by rw [hdD]; exact pastItsLine_dict (Nat.le_trans hcD (by rw [List.length_cons]; omega))) ?_)
  exact wpAny_pure (h _ ⟨(hs2.2 _ (Ne.symm I.ne)).trans I.obj, hn2, I.ne⟩ hs2)

theorem make_map {R : Result → Shared → Prop} {vs : List Value} {kw : List (Str × Value)} (X : K.In s.heap) (hm : PySem.W.makesIn K C = true)
    (hi : PySem.W.findIn K (.ref C) "__init__" = some (some (.ref f))) (hf : PySem.W.typeIn K (.ref f) = some (.type "function"))
    (h : codeAny (model prog w) (A.under (.builtin "type.__call__" ⟨.ref C :: vs, kw⟩)) (.call (.ref f) ⟨.ref (s.heap.objs.size + 1) :: vs, kw⟩) (PySem.W.InitBack (s.heap.objs.size + 1) R)
      { s with heap := (s.heap.push PySem.W.emptyDict).push (PySem.W.instObj C s.heap.objs.size) }) :
    codeAny (model prog w) A (.call (.ref C) ⟨vs, kw⟩) R s := by
  obtain ⟨hh, g, d, t, os⟩ := s
  exact PySem.W.make_core (PySem.W.makes_of X hm) (PySem.W.looks_findIn X hi) (fun self => PySem.W.bind_fn X self hf) (.inl rfl) h
end

noncomputable def putF (f : Str) (v : V) : List (Str × V) → List (Str × V)
  | [] => [(f, v)]
  | (g, x) :: r => if g = f then (g, v) :: r else (g, x) :: putF f v r
theorem lookup_putF (f g : Str) (v : V) : ∀ fs : List (Str × V), (putF f v fs).lookup g = if g = f then some v else fs.lookup g
  | [] => by
    show List.lookup g [(f, v)] = _
    by_cases h : g = f
    · have hb : (g == f) = true := beq_iff_eq.mpr h
      simp only [List.lookup, hb, if_pos h]
    · have hb : (g == f) = false := beq_eq_false_iff_ne.mpr h
      simp only [List.lookup, hb, if_neg h]
  | (k, x) :: r => by
    have ih := lookup_putF f g v r
    rw [show putF f v ((k, x) :: r) = (if k = f then (k, v) :: r else (k, x) :: putF f v r) from rfl]
    by_cases hk : k = f
    · rw [if_pos hk]
      by_cases h : g = k
      · have hb : (g == k) = true := beq_iff_eq.mpr h
        simp only [List.lookup, hb, if_pos (h.trans hk)]
      · have hb : (g == k) = false := beq_eq_false_iff_ne.mpr h
        simp only [List.lookup, hb, if_neg (fun e : g = f => h (e.trans hk.symm))]
    · rw [if_neg hk]
      by_cases h : g = k
      · have hb : (g == k) = true := beq_iff_eq.mpr h
        simp only [List.lookup, hb, if_neg (fun e : g = f => hk (h.symm.trans e))]
      · have hb : (g == k) = false := beq_eq_false_iff_ne.mpr h
        simp only [List.lookup, hb]
        exact ih
theorem keys_putF (f : Str) (v : V) : ∀ fs : List (Str × V), f ∈ (putF f v fs).map (·.1) ∧ ∀ g, g ∈ fs.map (·.1) → g ∈ (putF f v fs).map (·.1)
  | [] => ⟨by simp [putF], fun g h => by simp at h⟩
  | (k, x) :: r => by
    obtain ⟨i1, i2⟩ := keys_putF f v r
    rw [show putF f v ((k, x) :: r) = (if k = f then (k, v) :: r else (k, x) :: putF f v r) from rfl]
    by_cases hk : k = f
    · rw [if_pos hk]
      subst hk
      exact ⟨by simp, fun g h => by simpa using h⟩
    · rw [if_neg hk]
      refine ⟨?_, fun g h => ?_⟩
      · rw [List.map_cons]
        exact List.mem_cons_of_mem _ i1
      · rw [List.map_cons] at h ⊢
        rcases List.mem_cons.mp h with e | e
        · exact List.mem_cons.mpr (.inl e)
        · exact List.mem_cons_of_mem _ (i2 g e)
theorem length_putF (f : Str) (v : V) : ∀ fs : List (Str × V), (putF f v fs).length ≤ fs.length + 1
  | [] => by simp [putF]
  | (k, x) :: r => by
    have ih := length_putF f v r
    rw [show putF f v ((k, x) :: r) = (if k = f then (k, v) :: r else (k, x) :: putF f v r) from rfl]
    by_cases hk : k = f
    · rw [if_pos hk, List.length_cons, List.length_cons]; omega
    · rw [if_neg hk, List.length_cons, List.length_cons]; omega

theorem RelO.some_of {v : V} {o : Option Value} (r : RelO (some v) o) : ∃ u, o = some u ∧ RelV v u := by
  cases o with
  | none => exact (show False from r).elim
  | some u => exact ⟨u, rfl, r⟩
theorem handed_of {v : V} {u : Value} (r : RelV v u) : PySem.W.handedIn u = true := by
  cases v with
  | non => cases (show u = Value.none from r); rfl
  | bl b => cases (show u = Value.bool b from r); rfl
  | int i => obtain ⟨t, e⟩ := (show ∃ t, u = Value.int i t from r); cases e; rfl
  | str x => obtain ⟨t, e⟩ := (show ∃ t, u = Value.str x t from r); cases e; rfl
  | byt b => obtain ⟨t, e⟩ := (show ∃ t, u = Value.bytes b t from r); cases e; rfl
  | flt b => obtain ⟨t, e⟩ := (show ∃ t, u = Value.float b t from r); cases e; rfl
  | ref a => cases (show u = Value.ref a from r); rfl
  | ty n => cases (show u = Value.type n from r); rfl

section
variable {P : Program} {w : World} {H H' : Hp} {h h' : Heap} {a C dx : Addr} {fs fs' : List (Str × V)}
theorem ins_get (hok : HOk P w H h) (e : H a = some (.ins C dx fs)) : ∃ mA, ObjM h a dx C mA ∧ (∀ f, RelO (fs.lookup f) (mA f)) ∧ PySem.Within mA (fs.map (·.1)) ∧ fs.length ≤ 1000 ∧ H dx = some (.own a) := by
  obtain ⟨d, z, ne, ob, mA, n, r, q⟩ := (show ObjOk P w H h a (.ins C dx fs) from hok a _ e)
  exact ⟨mA, ⟨ob, n, ne⟩, r, q, z, d⟩
end

structure Cls (K : PySem.W.Frag) (C : Addr) : Prop where
  pg : PySem.W.plainGet K C Str.empty = true
  hd : PySem.W.hasDictIn K C = true
  po : PySem.W.plainOver K C = true
  sa : PySem.W.findIn K (.ref C) "__setattr__" = some (some (.builtin "object.__setattr__"))
theorem Cls.get {K : PySem.W.Frag} {C : Addr} (c : Cls K C) (f : Str) : PySem.W.plainGet K C f = true := c.pg
noncomputable def NoAttr (K : PySem.W.Frag) (C : Addr) (f : Str) : Prop := PySem.W.findIn K (.ref C) f = some none
theorem NoAttr.taker {K : PySem.W.Frag} {C : Addr} {f : Str} (n : NoAttr K C f) : PySem.W.takerIn K C f = some none := by
  unfold PySem.W.takerIn
  rw [show PySem.W.findIn K (.ref C) f = some none from n]
  rfl
structure Con (K : PySem.W.Frag) (C : Addr) (f : Str) (v : V) (u : Value) : Prop where
  at_ : PySem.W.findIn K (.ref C) f = some (some u)
  rel : RelV v u
  get : PySem.W.specialIn K u "__get__" = some none
  cp : PySem.W.copiedNames.contains f = false
structure Meth (K : PySem.W.Frag) (C : Addr) (m : Str) (f : Addr) : Prop where
  at_ : PySem.W.findIn K (.ref C) m = some (some (.ref f))
  fn : PySem.W.isFn K (.ref f) = true
  kp : PySem.W.keepIn K (.ref f) = true

section
variable {X : Cx} {pins : List (Addr × Obj)} {σ : St} {H : Hp} {s : Shared} {a C dx : Addr} {fs : List (Str × V)} {f : Str} {v : V} {A : Around} {E : Value → Shared → Prop}

theorem getattr_ok {b : Bool} {Q : Value → Shared → Prop} (I : Inv X pins σ H s) (e : H a = some (.ins C dx fs)) (c : Cls X.K C) (n : NoAttr X.K C f) (l : fs.lookup f = some v)
    (h : ∀ u s', Inv X pins σ H s' → RelV v u → Q u s') : wpAny (model X.prog X.w) A (getAttr (.ref a) f b) Q E s := by
  obtain ⟨mA, O, r, _, _, _⟩ := ins_get I.hok e
  obtain ⟨u, hu, ru⟩ := RelO.some_of (v := v) (o := mA f) (by rw [← l]; exact r f)
  exact get_map I.kIn O (c.get f) c.hd n hu (handed_of ru) (h u _ (I.tok _) ru)

theorem setattr_ok {y : V} {u : Value} {Q : Unit → Shared → Prop} (I : Inv X pins σ H s) (e : H a = some (.ins C dx fs)) (c : Cls X.K C) (n : NoAttr X.K C f) (hl : fs.length < 1000) (ry : RelV y u)
    (h : ∀ s', Inv X pins σ (upd H a (.ins C dx (putF f y fs))) s' → Q () s') : wpAny (model X.prog X.w) A (setAttr (.ref a) f u) Q E s := by
  obtain ⟨mA, O, r, wi, _, ho⟩ := ins_get I.hok e
  have hz : (fs.map (·.1)).length ≤ sizeLine := by rw [List.length_map, sizeLine_eq]; omega
  refine set_map I.kIn O c.sa c.po n.taker c.hd wi hz fun h' O' sb => h _ ?_
  have hd : ∃ o, h'.get? dx = some o := let ⟨o, _, _, e', _⟩ := O'.ns; ⟨o, e'⟩
  refine I.write (x := a) (e := dx) (by rw [e]; exact True.intro) (.inr ho) (fun b q hb z => (sb.2 b hb).trans z) hd ?_
  refine ⟨by rw [upd_ne O.ne]; exact ho, ?_, O.ne, O'.obj, _, O'.ns, fun g => ?_, fun g hg => ?_⟩
  · have := length_putF f y fs; omega
  · show RelO ((putF f y fs).lookup g) (if g = f then some u else mA g)
    rw [lookup_putF]
    by_cases q : g = f
    · rw [if_pos q, if_pos q]; exact ry
    · rw [if_neg q, if_neg q]; exact r g
  · by_cases q : g = f
    · rw [q]; exact (keys_putF f y fs).1
    · refine (keys_putF f y fs).2 g (wi g fun z => hg ?_)
      show (if g = f then some u else mA g) = none
      rw [if_neg q]; exact z

theorem Inv.made (I : Inv X pins σ H s) : Inv X pins σ (upd (upd H s.heap.objs.size (.own (s.heap.objs.size + 1))) (s.heap.objs.size + 1) (.ins C s.heap.objs.size []))
    { s with heap := (s.heap.push PySem.W.emptyDict).push (PySem.W.instObj C s.heap.objs.size) } := by
  have e1 : (s.heap.push PySem.W.emptyDict).get? s.heap.objs.size = some PySem.W.emptyDict := Heap.get?_push_size s.heap rfl
  have e2 : ((s.heap.push PySem.W.emptyDict).push (PySem.W.instObj C s.heap.objs.size)).get? (s.heap.objs.size + 1) = some (PySem.W.instObj C s.heap.objs.size) := by
    have := Heap.get?_push_size (s.heap.push PySem.W.emptyDict) (o := PySem.W.instObj C s.heap.objs.size) rfl
    rwa [Heap.size_push] at this
  have e3 : (s.heap.push PySem.W.emptyDict).Ns s.heap.objs.size (fun _ => none) := ⟨PySem.W.emptyDict, #[], _, e1, rfl, (fun e he => absurd he (by simp)), fun _ => rfl⟩
  have I1 := I.laid (a := s.heap.objs.size) (o := .own (s.heap.objs.size + 1)) (h' := s.heap.push PySem.W.emptyDict) (t' := s.toks) (fun b u q => Heap.get?_push_of_some _ q) (Nat.le_refl _) ⟨_, e1⟩
  refine I1.laid (a := s.heap.objs.size + 1) (o := .ins C s.heap.objs.size []) (t' := s.toks) (fun b u q => Heap.get?_push_of_some _ q) (Nat.le_of_eq (Heap.size_push _ _)) ?_
  have ne : s.heap.objs.size ≠ s.heap.objs.size + 1 := Nat.ne_of_lt (Nat.lt_succ_self _)
  refine ⟨by rw [upd_ne ne, upd_same], Nat.zero_le _, ne, e2, fun _ => none, (Heap.Ns1.of_empty e3).at fun o q => Heap.get?_push_of_some _ q, fun _ => True.intro, fun y hy => absurd rfl hy⟩

theorem attr_of {prog : Program} {w : World} {env : Env} {e : Expr} {f : Str} {pos : Pos} {s : Shared} {Q : Value → Shared → Prop} (hb : attributeBase e f env (eval e env) = eval e env)
    (h : wpAny (model prog w) A (eval e env) (fun o s₁ => wpAny (model prog w) A (getAttr o f true) Q E s₁) E s) : wpAny (model prog w) A (eval (.Attribute e f pos) env) Q E s :=
  Attribute_any_ h (by rw [arm_eval_Attribute, hb])
end

noncomputable def tFld (K : PySem.W.Frag) (ta : TE) (f : Str) : TE := fun σ H Q => ta σ H fun x H1 => ∃ a C dx fs v, x = .ref a ∧ H1 a = some (.ins C dx fs) ∧ Cls K C ∧ NoAttr K C f ∧ fs.lookup f = some v ∧ Q v H1
noncomputable def sFld (K : PySem.W.Frag) (ta tv : TE) (f : Str) : TS := fun D σ H => tv σ H fun y H1 => ta σ H1 fun x H2 => ∃ a C dx fs, x = .ref a ∧ H2 a = some (.ins C dx fs) ∧ Cls K C ∧ NoAttr K C f ∧ fs.length < 1000 ∧
  D.nx σ (upd H2 a (.ins C dx (putF f y fs)))
section
variable {X : Cx} {o e value : Expr} {f : Str} {pos pos' tpos : Pos} {ta tv : TE}
theorem pe_fld (he : PE X e ta) (hb : attributeBase e f X.env (eval e X.env) = eval e X.env) : PE X (.Attribute e f pos) (tFld X.K ta f) := by
  intro pins s σ H Q I h
  refine attr_of hb (thn (he pins s σ H _ I h) fun u s1 ⟨x, H1, I1, rx, a, C, dx, fs, v, ex, ea, c, n, l, q⟩ => ?_)
  subst ex
  obtain rfl : u = Value.ref a := rx
  exact getattr_ok I1 ea c n l fun u' s2 I2 ru => ⟨v, H1, I2, ru, q⟩
theorem ps_fld (ha : PE X o ta) (hv : PE X value tv) (hs : swapsWith value (some (.Attribute o f pos')) pos.line X.env = pure false) : PS X (.Assign [.Attribute o f pos'] value pos) (sFld X.K ta tv f) := by
  intro pins s σ H D I h
  refine plainObj_wpAny_Assign_Attribute (thn (hv pins s σ H _ I h) fun u s1 ⟨y, H1, I1, ry, q⟩ => thn (ha pins s1 σ H1 _ I1 q) fun ov s2 ⟨x, H2, I2, rx, a, C, dx, fs, ex, ea, c, n, l, q2⟩ => ?_) hs
  subst ex
  obtain rfl : ov = Value.ref a := rx
  exact setattr_ok I2 ea c n l ry fun s3 I3 => ⟨σ, _, I3, q2⟩
end

section
variable {X : Cx} {pins : List (Addr × Obj)} {σ : St} {H : Hp} {s : Shared} {A : Around} {E : Value → Shared → Prop} {Q : Value → Shared → Prop} {c : Value} {b : Bool}
inductive TyOf (K : PySem.W.Frag) (H : Hp) : V → Value → Prop where
  | non : TyOf K H .non (.type "NoneType")
  | bl (x : Bool) : TyOf K H (.bl x) (.type "bool")
  | int (i : Int) : TyOf K H (.int i) (.type "int")
  | str (x : Str) : TyOf K H (.str x) (.type "str")
  | flt (x : UInt64) : TyOf K H (.flt x) (.type "float")
  | lst {a : Addr} {xs : List V} (e : H a = some (.lst xs)) : TyOf K H (.ref a) (.type "list")
  | frz {a : Addr} {o : Obj} {xs : List V} (e : H a = some (.frz o (.lst xs))) : TyOf K H (.ref a) (.type "list")
  | tup {a : Addr} {xs : List V} (e : H a = some (.tup xs)) : TyOf K H (.ref a) (.type "tuple")
  | dK {a : Addr} {kvs : List (Key × V)} (e : H a = some (.dK kvs)) : TyOf K H (.ref a) (.type "dict")
  | dT {a : Addr} {kvs : List (List Key × V)} (e : H a = some (.dT kvs)) : TyOf K H (.ref a) (.type "dict")
  | ins {a C dx : Addr} {fs : List (Str × V)} (e : H a = some (.ins C dx fs)) (cl : Cls K C) (ha : PySem.W.findIn K (.ref C) "__class__" = some (some (.builtin "object.__class__")))
      (hn : PySem.W.specialIn K (.builtin "object.__class__") "__get__" = some (some (.builtin "getset_descriptor.__get__"))) (htk : PySem.W.takesIn K (.builtin "object.__class__") = some true)
      (hm : PySem.W.mroIn K C (.type "object") = some true) : TyOf K H (.ref a) (.ref C)
end
end L2

namespace L2
open PySem PySem.Spec PyProof.Rows

structure Room (k : Nat) (A : Around) : Prop where
  hd : A.handled = none
  dp : A.depth + 3 * k + 5 < recursionLimit
  un : A.units + 16 * k + 200 < cLine
theorem Room.mono {j k : Nat} {A : Around} (r : Room k A) (h : j ≤ k) : Room j A := ⟨r.hd, by have := r.dp; omega, by have := r.un; omega⟩
theorem Room.deeper {k : Nat} {A : Around} (r : Room (k + 1) A) (env : Env) : Room k (A.deeper env) :=
  ⟨r.hd, by have := r.dp; show A.depth + 1 + 3 * k + 5 < _; omega, by have := r.un; show A.units + 3 + 16 * k + 200 < _; omega⟩
theorem make_depth {A : Around} {C : Addr} {us : List Value} {kw : List (Str × Value)} : (A.under (.builtin "type.__call__" ⟨.ref C :: us, kw⟩)).depth = A.depth + 1 := by
  first | rfl | simp [Around.under, Code.weight, Code.isCreation, Code.isGuard, Code.isCaller, Code.frames, Code.isFrame, guardIds]
theorem make_units {A : Around} {C : Addr} {us : List Value} {kw : List (Str × Value)} : (A.under (.builtin "type.__call__" ⟨.ref C :: us, kw⟩)).units = A.units + 1 := by
  first | rfl | simp [Around.under, Code.cUnits, Code.frames, Code.isFrame]
theorem Room.make {k : Nat} {A : Around} (r : Room (k + 1) A) (C : Addr) (us : List Value) (kw : List (Str × Value)) : Room k (A.under (.builtin "type.__call__" ⟨.ref C :: us, kw⟩)) :=
  ⟨r.hd, by have := r.dp; rw [make_depth]; omega, by have := r.un; rw [make_units]; omega⟩
theorem Room.depth {k : Nat} {A : Around} (r : Room k A) : A.depth < recursionLimit := by have := r.dp; omega
theorem Room.units {k : Nat} {A : Around} (r : Room k A) : A.units + 64 < cLine := by have := r.un; omega
noncomputable def tNil : TA := fun _ H Q => Q [] H
noncomputable def tCons (ta : TE) (tr : TA) : TA := fun σ H Q => ta σ H fun x H1 => tr σ H1 fun xs H2 => Q (x :: xs) H2
section
variable {X : Cx} {e : Expr} {es : List Expr} {te : TE} {t : TA} {pos : Pos}
theorem pa_nil : PA X [] tNil := fun _ _ _ _ H Q I h => Calls.spliced_nil ⟨[], H, I, .nil, h⟩
theorem pa_cons (ha : PE X e te) (hr : PA X es t) (hs : starEach (e :: es) X.env = (false, eval e X.env) :: starEach es X.env := by rfl) : PA X (e :: es) (tCons te t) := by
  intro pos pins s σ H Q I h
  rw [hs]
  show wpAny _ _ (spliced ((false, eval e X.env) :: backTo pos (starEach es X.env))) _ _ s
  refine Calls.spliced_cons (thn (ha pins s σ H _ I h) fun u s1 ⟨x, H1, I1, r1, q1⟩ => ?_)
  exact thn (hr pos pins s1 σ H1 _ I1 q1) fun us s2 ⟨xs, H2, I2, r2, q2⟩ => ⟨x :: xs, H2, I2, .cons r1 r2, q2⟩

noncomputable def tTup (t : TA) : TE := fun σ H Q => t σ H fun xs H1 => xs.length ≤ sizeLine ∧ ∀ p, H1 p = none → Q (.ref p) (upd H1 p (.tup xs))
noncomputable def tLst (t : TA) : TE := fun σ H Q => t σ H fun xs H1 => xs.length ≤ sizeLine ∧ ∀ p, H1 p = none → Q (.ref p) (upd H1 p (.lst xs))
theorem pe_tup {x1} (h : PA X es t) : PE X (.Tuple es x1 pos) (tTup t) := by
  intro pins s σ H Q I hq
  refine wpAny_Tuple_spliced (thn (h pos pins s σ H _ I hq) fun us s1 ⟨xs, H1, I1, r, z, q⟩ => ⟨by rw [← r.length]; exact z, ?_⟩)
  have hf : H1 s1.heap.objs.size = none := I1.hok.fresh (Nat.le_refl _)
  refine ⟨.ref s1.heap.objs.size, upd H1 s1.heap.objs.size (.tup xs), I1.laid (t' := s1.toks) (fun b u e => Heap.get?_push_of_some _ e) (Nat.le_refl _) ?_, rfl, q _ hf⟩
  exact ⟨z, us, r, ⟨_, Heap.get?_push_size _ rfl, rfl, _, rfl⟩⟩
theorem pe_lst (h : PA X es t) : PE X (.List es pos) (tLst t) := by
  intro pins s σ H Q I hq
  refine wpAny_List_spliced (thn (h pos pins s σ H _ I hq) fun us s1 ⟨xs, H1, I1, r, z, q⟩ => ⟨by rw [← r.length]; exact z, ?_⟩)
  have hf : H1 s1.heap.objs.size = none := I1.hok.fresh (Nat.le_refl _)
  refine ⟨.ref s1.heap.objs.size, upd H1 s1.heap.objs.size (.lst xs), I1.laid (t' := s1.toks) (fun b u e => Heap.get?_push_of_some _ e) (Nat.le_refl _) ?_, rfl, q _ hf⟩
  exact ⟨z, us, 0, r, Heap.get?_push_size _ rfl⟩
end

noncomputable abbrev Sp := List V → Hp → VK → XK → Prop
noncomputable abbrev CXT := List Env → Hp → Shared → XK → Value → Shared → Prop

structure Env0 (P : Program) (w : World) (K : PySem.W.Frag) (mg : Str → Option Value) (base : Heap) (A : Around) (outer : List Env) (s : Shared) (H : Hp) : Prop where
  frames : A.frames = some outer
  mod : Mod K mg base
  bs : ∀ b o, base.get? b = some o → s.heap.get? b = some o ∧ H b = none
  bsz : base.objs.size ≤ s.heap.objs.size
  funs : s.heap.FunFrames base outer
  frf : ∀ b ∈ frs outer, H b = none
  hok : HOk P w H s.heap
  bare : AllBare s.gens
noncomputable def CE (outer : List Env) (P : Program) (w : World) (H : Hp) (s : Shared) (Q : VK) (u : Value) (s' : Shared) : Prop :=
  ∃ v H', s'.os = s.os ∧ AllBare s'.gens ∧ Un (frs outer) [] H H' s.heap s'.heap ∧ HOk P w H' s'.heap ∧ RelV v u ∧ Q v H'
noncomputable def CR (CX : CXT) (outer : List Env) (P : Program) (w : World) (H : Hp) (s : Shared) (Q : VK) (E : XK) (r : Result) (s' : Shared) : Prop :=
  match r with
  | .ok (.ret u) => CE outer P w H s Q u s'
  | .ok _ => False
  | .error e => CX outer H s E e s'
structure FnOk (P : Program) (w : World) (K : PySem.W.Frag) (mg : Str → Option Value) (base : Heap) (CX : CXT) (k : Nat) (f : Addr) (fd : FuncData) (ps : List Str) (sp : Sp) : Prop where
  len : ∀ vs H Q E, sp vs H Q E → vs.length = ps.length
  run : ∀ (A : Around) (outer : List Env) (s : Shared) (H : Hp) (args : Args) (us : List Value) (vs : List V) (Q : VK) (E : XK), Room k A → Env0 P w K mg base A outer s H → BindsTo s fd args (ps.zip us) → Vals vs us → sp vs H Q E →
    codeAny (model P w) A (.call (.ref f) args) (CR CX outer P w H s Q E) s
theorem Env0.make {P : Program} {w : World} {K : PySem.W.Frag} {mg : Str → Option Value} {base : Heap} {A : Around} {outer : List Env} {s : Shared} {H : Hp} (e : Env0 P w K mg base A outer s H) (C : Addr) (us : List Value) (kw : List (Str × Value)) :
    Env0 P w K mg base (A.under (.builtin "type.__call__" ⟨.ref C :: us, kw⟩)) outer s H := ⟨by first | exact e.frames | (simpa [Around.under, Code.envs, Code.isFrame, pushEnvs] using e.frames), e.mod, e.bs, e.bsz, e.funs, e.frf, e.hok, e.bare⟩
section
variable {X : Cx} {pins : List (Addr × Obj)} {σ : St} {H : Hp} {s s' : Shared}
theorem Inv.env0 (I : Inv X pins σ H s) : Env0 X.prog X.w X.K X.mg X.base X.A X.stack s H :=
  ⟨I.ok.frames, I.ok.mod, I.bs, Nat.le_trans I.ok.bsz I.sz, I.stack, I.stkFree, I.hok, I.bare⟩
theorem Inv.after {Q : VK} {u : Value} (I : Inv X pins σ H s) (h : CE X.stack X.prog X.w H s Q u s') : EP X pins σ Q u s' := by
  obtain ⟨v, H', os, bare, un, hok, r, q⟩ := h
  obtain ⟨hh, g, d, t, os'⟩ := s'
  obtain rfl : os' = s.os := os
  exact ⟨v, H', I.call (h' := hh) (g' := g) (d' := d) (t' := t) (ch := []) un hok bare (fun b z => absurd z (by simp)), r, q⟩
end

noncomputable def tCall (sp : Sp) (dvs : List V) (E : XK) (t : TA) : TE := fun σ H Q => t σ H fun vs H1 => sp (vs ++ dvs) H1 Q E
noncomputable def tMake (C : Addr) (sp : Sp) (dvs : List V) (E : XK) (t : TA) : TE := fun σ H Q => t σ H fun vs H1 => ∀ x dx, H1 x = none → H1 dx = none → dx ≠ x →
  sp (.ref x :: (vs ++ dvs)) (upd (upd H1 dx (.own x)) x (.ins C dx [])) (fun v H2 => v = .non ∧ Q (.ref x) H2) E

noncomputable def Binds (K : PySem.W.Frag) (fd : FuncData) (ps : List Str) (ds : List Value) : Prop :=
  ∀ (s : Shared) (us : List Value), K.In s.heap → (us ++ ds).length = ps.length → BindsTo s fd ⟨us, []⟩ (ps.zip (us ++ ds))
theorem Binds.all {K : PySem.W.Frag} {fd : FuncData} {ps : List Str} (h : ∀ us : List Value, us.length = ps.length → bindArgs fd ⟨us, []⟩ = pure (ps.zip us)) : Binds K fd ps [] := fun s us _ hl => by
  rw [List.append_nil] at hl ⊢
  exact .of_eq (h us hl)

noncomputable def Passes (CX : CXT) (X : Cx) (E : XK) : Prop := ∀ (pins : List (Addr × Obj)) (σ : St) (H : Hp) (s : Shared) (e : Value) (s' : Shared), Inv X pins σ H s → CX X.stack H s E e s' → X.xe e s'

section
variable {X : Cx} {CX : CXT} {k : Nat} {f C : Addr} {fd : FuncData} {ps : List Str} {sp : Sp} {dvs : List V} {ds : List Value} {E : XK} {x m : Str} {p pos apos : Pos} {e o : Expr} {es : List Expr} {ta : TE} {t : TA}

theorem run_fn {pins : List (Addr × Obj)} {σ : St} {H : Hp} {s : Shared} {Q : VK} {us : List Value} {vs : List V} (F : FnOk X.prog X.w X.K X.mg X.base CX k f fd ps sp) (hr : Room k X.A) (hb : Binds X.K fd ps ds) (hd : Vals dvs ds) (hx : Passes CX X E)
    (I : Inv X pins σ H s) (r : Vals vs us) (h : sp (vs ++ dvs) H Q E) : wpAny (model X.prog X.w) X.A (call (.ref f) us) (EP X pins σ Q) X.xe s := by
  have r2 : Vals (vs ++ dvs) (us ++ ds) := r.append hd
  have hl : (us ++ ds).length = ps.length := by rw [← r2.length]; exact F.len _ _ _ _ h
  refine wpAny_call (codeAny_mono (F.run X.A X.stack s H ⟨us, []⟩ (us ++ ds) (vs ++ dvs) Q E hr I.env0 (hb s us I.kIn hl) r2 h) fun r s' hq => ?_)
  cases r with
  | error e => exact hx pins σ H s e s' I hq
  | ok fl =>
    cases fl with
    | ret u => exact I.after hq
    | next => exact False.elim hq
    | brk => exact False.elim hq
    | cont => exact False.elim hq

theorem pe_call (F : FnOk X.prog X.w X.K X.mg X.base CX k f fd ps sp) (hr : Room k X.A) (hg : Gl X x) (hm : X.mg x = some (.ref f)) (hk : PySem.W.keepIn X.K (.ref f) = true) (hb : Binds X.K fd ps ds) (hd : Vals dvs ds) (hx : Passes CX X E)
    (ha : PA X (e :: es) t) (hdb : (x == ("__debug__" : Str)) = false := by decide) (he : starEach (e :: es) X.env = (false, eval e X.env) :: starEach es X.env := by rfl) (hpl : (backTo pos (starEach es X.env)).any (·.1) = false := by rfl) :
    PE X (.Call (.Name x p) (e :: es) [] pos) (tCall sp dvs E t) := by
  intro pins s σ H Q I h
  refine wpAny_Call_Name_kw (ld_glob I hg hm ?_ hdb)
  refine PySem.W.callWith_K (h₀ := X.base) I.ok.mod.kin hk (thn (ha pos pins s σ H _ I h) fun us s1 ⟨vs, H1, I1, r, q⟩ => ⟨I1.kIn, ?_⟩) he hpl
  exact run_fn F hr hb hd hx I1 r q
structure Mk (K : PySem.W.Frag) (C f : Addr) : Prop where
  makes : PySem.W.makesIn K C = true
  init : PySem.W.findIn K (.ref C) "__init__" = some (some (.ref f))
  fn : PySem.W.isFn K (.ref f) = true
  kp : PySem.W.keepIn K (.ref C) = true

theorem run_make {pins : List (Addr × Obj)} {σ : St} {H : Hp} {s : Shared} {Q : VK} {us : List Value} {vs : List V} (M : Mk X.K C f) (F : FnOk X.prog X.w X.K X.mg X.base CX k f fd ps sp) (hr : Room (k + 1) X.A) (hb : Binds X.K fd ps ds) (hd : Vals dvs ds)
    (hx : Passes CX X E) (I : Inv X pins σ H s) (r : Vals vs us)
    (h : ∀ x dx, H x = none → H dx = none → dx ≠ x → sp (.ref x :: (vs ++ dvs)) (upd (upd H dx (.own x)) x (.ins C dx [])) (fun v H2 => v = .non ∧ Q (.ref x) H2) E) :
    wpAny (model X.prog X.w) X.A (call (.ref C) us) (EP X pins σ Q) X.xe s := by
  have hq := h (s.heap.objs.size + 1) s.heap.objs.size (I.hok.fresh (Nat.le_succ _)) (I.hok.fresh (Nat.le_refl _)) (Nat.ne_of_lt (Nat.lt_succ_self _))
  have I2 := Inv.made (C := C) I
  have r2 : Vals (V.ref (s.heap.objs.size + 1) :: (vs ++ dvs)) (Value.ref (s.heap.objs.size + 1) :: (us ++ ds)) := .cons rfl (r.append hd)
  have hl : (Value.ref (s.heap.objs.size + 1) :: us ++ ds).length = ps.length := by
    have e := r2.length
    rw [F.len _ _ _ _ hq] at e
    exact e.symm
  refine wpAny_call (make_map (f := f) I.kIn M.makes M.init (beq_iff_eq.mp M.fn) (codeAny_mono (F.run _ X.stack _ _ ⟨Value.ref (s.heap.objs.size + 1) :: us, []⟩ (Value.ref (s.heap.objs.size + 1) :: (us ++ ds)) _ _ E (hr.make C us [])
    (I2.env0.make C us []) (hb _ (Value.ref (s.heap.objs.size + 1) :: us) I2.kIn hl) r2 hq) fun r s' hq' => ?_))
  cases r with
  | error e => exact hx pins σ _ _ e s' I2 hq'
  | ok fl =>
    cases fl with
    | ret u =>
      obtain ⟨v, H', I3, rv, ev, q3⟩ := I2.after hq'
      subst ev
      exact ⟨rv, ⟨V.ref (s.heap.objs.size + 1), H', I3, rfl, q3⟩⟩
    | next => exact False.elim hq'
    | brk => exact False.elim hq'
    | cont => exact False.elim hq'
theorem pe_make (M : Mk X.K C f) (F : FnOk X.prog X.w X.K X.mg X.base CX k f fd ps sp) (hr : Room (k + 1) X.A) (hg : Gl X x) (hm : X.mg x = some (.ref C)) (hb : Binds X.K fd ps ds) (hd : Vals dvs ds) (hx : Passes CX X E)
    (ha : PA X (e :: es) t) (hdb : (x == ("__debug__" : Str)) = false := by decide) (he : starEach (e :: es) X.env = (false, eval e X.env) :: starEach es X.env := by rfl) (hpl : (backTo pos (starEach es X.env)).any (·.1) = false := by rfl) :
    PE X (.Call (.Name x p) (e :: es) [] pos) (tMake C sp dvs E t) := by
  intro pins s σ H Q I h
  refine wpAny_Call_Name_kw (ld_glob I hg hm ?_ hdb)
  refine PySem.W.callWith_K (h₀ := X.base) I.ok.mod.kin M.kp (thn (ha pos pins s σ H _ I h) fun us s1 ⟨vs, H1, I1, r, q⟩ => ⟨I1.kIn, ?_⟩) he hpl
  exact run_make M F hr hb hd hx I1 r q
end

section
variable {X : Cx} {CX : CXT} {k : Nat} {f C : Addr} {fd : FuncData} {ps ks : List Str} {sp : Sp} {E : XK} {x m : Str} {p pos apos kpos : Pos} {e o : Expr} {es : List Expr} {kws : List Keyword} {te ta : TE} {t tk : TA} {nm : Option Str}
structure KBinds (K : PySem.W.Frag) (fd : FuncData) (ps ks : List Str) (g : List Value → List Value → List Value) (gV : List V → List V → List V) : Prop where
  to : ∀ (s : Shared) (us ws : List Value), K.In s.heap → (g us ws).length = ps.length → BindsTo s fd ⟨us, ks.zip ws⟩ (ps.zip (g us ws))
  rel : ∀ {vs : List V} {us : List Value} {zs : List V} {ws : List Value}, Vals vs us → Vals zs ws → Vals (gV vs zs) (g us ws)
variable {g : List Value → List Value → List Value} {gV : List V → List V → List V}
end

structure FnScope (N P : List Str) (sc : Scope) : Prop where
  kind : sc.kind = .function
  co : sc.isCoroutine = false
  gen : sc.isGenerator = false
  nd : N.Nodup
  pre : N.take P.length = P
  par : ∀ x ∈ P, sc.names.lookup x = some .local ∨ sc.names.lookup x = some .cell
  nofree : ∀ y ∈ sc.names, y.2 ≠ .free

theorem bindL_out {kindOf : Str → Option NameKind} {x : Str} : ∀ {binds : List (Str × Value)} {m : Str → Option Value}, (∀ v, (x, v) ∉ binds) → bindL kindOf binds m x = m x
  | [], _, _ => rfl
  | (n, v) :: r, m, h => by
    unfold bindL
    rw [bindL_out fun w hw => h w (List.mem_cons_of_mem _ hw)]
    split
    · have : x ≠ n := by rintro rfl; exact h v List.mem_cons_self
      simp [this]
    · rfl
theorem bindC_out {kindOf : Str → Option NameKind} {x : Str} : ∀ {binds : List (Str × Value)} {m : Str → Option Value}, (∀ v, (x, v) ∉ binds) → bindC kindOf binds m x = m x
  | [], _, _ => rfl
  | (n, v) :: r, m, h => by
    unfold bindC
    rw [bindC_out fun w hw => h w (List.mem_cons_of_mem _ hw)]
    split
    · rfl
    · have : x ≠ n := by rintro rfl; exact h v List.mem_cons_self
      simp [this]
theorem bindL_get {kindOf : Str → Option NameKind} {x : Str} {v : Value} : ∀ {P : List Str} {vs : List Value} {i : Nat} {m : Str → Option Value}, P.Nodup → P[i]? = some x → vs[i]? = some v → kindOf x = some .local →
    bindL kindOf (P.zip vs) m x = some v
  | [], _, _, _, _, h, _, _ => by simp at h
  | _ :: _, [], _, _, _, _, h, _ => by simp at h
  | p :: P, w :: vs, 0, m, nd, h1, h2, hk => by
    simp at h1 h2; subst h1; subst h2
    show bindL kindOf ((p, w) :: P.zip vs) m p = _
    unfold bindL
    rw [bindL_out fun v hv => (List.nodup_cons.mp nd).1 (List.of_mem_zip hv).1, if_pos hk]
    simp
  | p :: P, w :: vs, i + 1, m, nd, h1, h2, hk => by
    show bindL kindOf ((p, w) :: P.zip vs) m x = _
    unfold bindL
    exact bindL_get (i := i) (List.nodup_cons.mp nd).2 (by simpa using h1) (by simpa using h2) hk
theorem bindC_get {kindOf : Str → Option NameKind} {x : Str} {v : Value} : ∀ {P : List Str} {vs : List Value} {i : Nat} {m : Str → Option Value}, P.Nodup → P[i]? = some x → vs[i]? = some v → kindOf x ≠ some .local →
    bindC kindOf (P.zip vs) m x = some v
  | [], _, _, _, _, h, _, _ => by simp at h
  | _ :: _, [], _, _, _, _, h, _ => by simp at h
  | p :: P, w :: vs, 0, m, nd, h1, h2, hk => by
    simp at h1 h2; subst h1; subst h2
    show bindC kindOf ((p, w) :: P.zip vs) m p = _
    unfold bindC
    rw [bindC_out fun v hv => (List.nodup_cons.mp nd).1 (List.of_mem_zip hv).1, if_neg hk]
    simp
  | p :: P, w :: vs, i + 1, m, nd, h1, h2, hk => by
    show bindC kindOf ((p, w) :: P.zip vs) m x = _
    unfold bindC
    exact bindC_get (i := i) (List.nodup_cons.mp nd).2 (by simpa using h1) (by simpa using h2) hk

noncomputable def start (N : List Str) (vs : List V) : St := vs.map some ++ List.replicate (N.length - vs.length) none

noncomputable def cxOf (CX : CXT) (P : Program) (w : World) (K : PySem.W.Frag) (mg : Str → Option Value) (base : Heap) (N : List Str) (qual : Str) (scope : Scope) (f : Addr) (cd : Value) (A : Around) (outer : List Env) (s : Shared) (H : Hp) (E : XK) : Cx where
  prog := P
  w := w
  K := K
  mg := mg
  base := base
  A := A.deeper (envOfC qual scope s.heap.objs.size f cd)
  N := N
  s_0 := s
  H_0 := H
  env := envOfC qual scope s.heap.objs.size f cd
  outer := outer
  stack := envOfC qual scope s.heap.objs.size f cd :: outer
  ex := []
  calm := true
  fn := fun _ => true
  pn := []
  xe := fun e s' => wpAny (model P w) (A.deeper (envOfC qual scope s.heap.objs.size f cd)) (leaving (envOfC qual scope s.heap.objs.size f cd) e) (fun _ s'' => CX outer H s E e s'') (fun e' s'' => CX outer H s E e' s'') s'

theorem cell_has {sc : Scope} {n : Nat} {x : Str} (h : sc.names.lookup x = some .cell) : ∃ c, (cellsFrom n sc.names []).lookup x = some c := by
  have q := PySem.W.cellsFrom_some sc.names n [] (.inl h)
  exact Option.isSome_iff_exists.mp q

theorem inv_start {CX : CXT} {P : Program} {w : World} {K : PySem.W.Frag} {mg : Str → Option Value} {base : Heap} {N ps : List Str} {qual : Str} {scope : Scope} {f : Addr} {cd : Value} {A : Around} {outer : List Env} {s s1 : Shared} {H : Hp} {E : XK} {us : List Value} {vs : List V}
    (S : FnScope N ps scope) (hd : A.handled = none) (e0 : Env0 P w K mg base A outer s H) (hl : vs.length = ps.length) (r : Vals vs us)
    (x : InCallC s s.heap.objs.size (bindL (envOfC qual scope s.heap.objs.size f cd).kindOf (ps.zip us) fun _ => none) (cellsFrom (s.heap.objs.size + 1) scope.names []) (bindC (envOfC qual scope s.heap.objs.size f cd).kindOf (ps.zip us) fun _ => none) s1) :
    Inv (cxOf CX P w K mg base N qual scope f cd A outer s H E) [] (start N vs) H s1 := by
  have hpl : ps.length ≤ N.length := by have := congrArg List.length S.pre; rw [List.length_take] at this; omega
  obtain ⟨h1, tk, rfl, hk⟩ := x.done
  have noA : ∀ b : Addr, b ∉ (cxOf CX P w K mg base N qual scope f cd A outer s H E).ex := fun b z => absurd (show b ∈ ([] : List Addr) from z) (by simp)
  refine ⟨⟨e0.mod, S.kind, rfl, rfl, Nat.le_refl _, fun y z c h1 h2 => ?_, fun y hy => ?_, fun y c _ h => ?_, fun _ => hd, Around.frames_deeper e0.frames, .inr ⟨rfl, rfl⟩, fun b z => absurd z (noA b), e0.bs, e0.bsz, fun b _ _ => noA b, fun b z => absurd z (noA b), e0.funs, e0.frf⟩,
    rfl, e0.bare, Un.kept hk, ⟨_, x.toInCall.ns, fun i y v h1 h2 h3 => ?_⟩, fun y c h => ⟨_, x.cell y c h⟩, e0.hok.fresh (Nat.le_refl _), fun y c h => ?_, fun p hp => absurd (show p ∈ ([] : List (Addr × Obj)) from hp) (by simp), e0.hok.kept hk, ?_⟩
  · exact name_of_addr x.apart (PySem.mem_of_lookup h1) (PySem.mem_of_lookup h2)
  · have hy : scope.names.lookup y = some .cell ∨ scope.names.lookup y = some .free := hy
    rcases hy with hy | hy
    · exact cell_has hy
    · exact absurd rfl (S.nofree _ (PySem.mem_of_lookup hy))
  · exact Nat.le_of_lt (x.above y c (PySem.mem_of_lookup h))
  · have hi : i < vs.length := by
      unfold start at h2
      by_cases hi : i < vs.length
      · exact hi
      · rw [List.getElem?_append_right (by simpa using hi)] at h2
        rw [List.getElem?_replicate] at h2
        split at h2 <;> cases h2
    have ha : vs[i]? = some v := by
      unfold start at h2
      rw [List.getElem?_append_left (by simpa using hi), List.getElem?_map] at h2
      cases e : vs[i]? with
      | none => rw [e] at h2; cases h2
      | some a => rw [e] at h2; cases h2; rfl
    obtain ⟨u, hu, rv⟩ := r.get ha
    have hp : ps[i]? = some y := by
      rw [← S.pre, List.getElem?_take_of_lt (by omega)]; exact h1
    have ndP : ps.Nodup := by rw [← S.pre]; exact S.nd.sublist (List.take_sublist _ _)
    refine ⟨u, rv, ?_⟩
    rcases S.par y (List.mem_of_getElem? hp) with k | k
    · exact .inl ⟨k, bindL_get ndP hp hu k⟩
    · obtain ⟨c, e⟩ := cell_has (n := s.heap.objs.size + 1) k
      refine .inr ⟨.inl k, c, e, ?_⟩
      have q := x.cell y c e
      rw [bindC_get ndP hp hu (by show scope.names.lookup y ≠ _; rw [k]; decide)] at q
      exact q
  · exact e0.hok.fresh (Nat.le_of_lt (x.above y c (PySem.mem_of_lookup h)))
  · unfold start
    show _ = N.length
    rw [List.length_append, List.length_map, List.length_replicate]
    omega

theorem fn_of {CX : CXT} {P : Program} {w : World} {K : PySem.W.Frag} {mg : Str → Option Value} {base : Heap} {k : Nat} {f : Addr} {name qual : Str} {params : Arguments} {body : List Stmt} {scope : Scope} {dV kV doc pm cdv ct oc : Value} {an od : Option Addr}
    {osl : Array (Option Value)} {N ps : List Str} {sp : Sp} (lk : K.lookup f = some ⟨oc, od, .func (PySem.W.fnOf name qual params body scope dV kV doc pm an cdv ct), osl⟩) (hcd : PySem.W.codeIn K cdv qual = true) (S : FnScope N ps scope)
    (len : ∀ vs H Q E, sp vs H Q E → vs.length = ps.length)
    (hbody : ∀ (A : Around) (outer : List Env) (s : Shared) (H : Hp) (vs : List V) (Q : VK) (E : XK), Room k (A.deeper (envOfC qual scope s.heap.objs.size f cdv)) → sp vs H Q E →
      ∃ t, PSs (cxOf CX P w K mg base N qual scope f cdv A outer s H E) body t ∧ t { nx := fun _ H' => Q .non H', rt := Q } (start N vs) H) :
    FnOk P w K mg base CX (k + 1) f (PySem.W.fnOf name qual params body scope dV kV doc pm an cdv ct) ps sp := by
  refine ⟨len, fun A outer s H args us vs Q E hr e0 hb r hsp => ?_⟩
  have hl := len _ _ _ _ hsp
  have KX : K.In s.heap := e0.mod.kin.keeps fun b o e => (e0.bs b o e).1
  have lim : s.heap.NoLimit := e0.mod.nolimit.keeps fun b o e => (e0.bs b o e).1
  have hkind : ∀ y ∈ ps.zip us, scope.names.lookup y.1 = some .local ∨ (scope.names.lookup y.1 = some .cell ∧ ((cellsFrom (s.heap.objs.size + 1) scope.names []).lookup y.1).isSome = true) := fun ⟨n, v⟩ hy => by
    rcases S.par n (List.of_mem_zip hy).1 with q | q
    · exact .inl q
    · exact .inr ⟨q, PySem.W.cellsFrom_some _ _ _ (.inl q)⟩
  refine codeAny_call_function hr.depth (KX _ _ lk) rfl S.co S.gen rfl (PySem.W.codeRec_of KX hcd) (hb _ _ _ _ ?_)
  refine wpAny_newFunctionEnv_cells S.kind hkind fun env he s1 x => ?_
  subst he
  refine ⟨lim.keeps x.toInCall.keep, codeAny_func ?_⟩
  obtain ⟨t, ht, hq⟩ := hbody A outer s H vs Q E (hr.deeper _) hsp
  have I : Inv (cxOf CX P w K mg base N qual scope f cdv A outer s H E) [] (start N vs) H s1 := inv_start S hr.hd e0 hl r x
  refine wpAny_mono (ht [] s1 (start N vs) H _ I hq) (fun fl s' hs => ?_) fun e s' hs => hs
  have fin : ∀ {σ' : St} {H' : Hp} {v : V} {u : Value}, Inv (cxOf CX P w K mg base N qual scope f cdv A outer s H E) [] σ' H' s' → RelV v u → Q v H' → CE outer P w H s Q u s' :=
    fun {σ' H' v u} J rv q => ⟨v, H', J.os, J.bare, J.base, J.hok, rv, q⟩
  cases fl with
  | ret u =>
    obtain ⟨v, σ', H', J, rv, q⟩ := hs
    exact fin J rv q
  | next =>
    obtain ⟨σ', H', J, q⟩ := hs
    exact fin (v := V.non) (u := Value.none) J rfl q
  | brk =>
    obtain ⟨_, _, _, q⟩ := hs
    exact False.elim q
  | cont =>
    obtain ⟨_, _, _, q⟩ := hs
    exact False.elim q
end L2

namespace L2
open PySem PySem.Spec PyProof.Rows
section
variable {X : Cx} {x : Str} {p pos : Pos} {e : Expr} {es : List Expr} {t : TA} {id T : String} {r : List V → Hp → VK → Prop}

noncomputable def tCB (r : List V → Hp → VK → Prop) (t : TA) : TE := fun σ H Q => t σ H fun vs H1 => r vs H1 Q
theorem pe_callB (hc : CallR X (.builtin id) r) (hg : Gl X x) (hm : X.mg x = none) (hv : bootBuiltins x = some (.builtin id)) (ha : PA X (e :: es) t) (hn : x ≠ "__name__" := by decide) (hdb : (x == ("__debug__" : Str)) = false := by decide)
    (he : starEach (e :: es) X.env = (false, eval e X.env) :: starEach es X.env := by rfl) (hpl : (backTo pos (starEach es X.env)).any (·.1) = false := by rfl) : PE X (.Call (.Name x p) (e :: es) [] pos) (tCB r t) := by
  intro pins s σ H Q I h
  refine wpAny_Call_Name_kw (ld_blt I hg hm hv ?_ hn hdb)
  exact PyProof.Rows.callWith_builtin1 (thn (ha pos pins s σ H _ I h) fun us s1 ⟨vs, H1, I1, r1, q1⟩ => hc pins s1 σ H1 vs us Q I1 r1 q1) he hpl
theorem pe_callTy (hc : CallR X (.type T) r) (hg : Gl X x) (hm : X.mg x = none) (hv : bootBuiltins x = some (.type T)) (ha : PA X (e :: es) t) (hn : x ≠ "__name__" := by decide) (hdb : (x == ("__debug__" : Str)) = false := by decide)
    (he : starEach (e :: es) X.env = (false, eval e X.env) :: starEach es X.env := by rfl) (hpl : (backTo pos (starEach es X.env)).any (·.1) = false := by rfl) : PE X (.Call (.Name x p) (e :: es) [] pos) (tCB r t) := by
  intro pins s σ H Q I h
  refine wpAny_Call_Name_kw (ld_blt I hg hm hv ?_ hn hdb)
  exact PyProof.Rows.callWith_type1 (thn (ha pos pins s σ H _ I h) fun us s1 ⟨vs, H1, I1, r1, q1⟩ => hc pins s1 σ H1 vs us Q I1 r1 q1) he hpl
end
end L2

namespace HT
open PySem PyProof.Rows

section
open PySem.SeqAt
open PySem.AutoSeq1 (wpAny_loadPart')
open PySem.MeetsSeq PySem.MeetsSeq2 PySem.MeetsSeq3

end

section
variable {prog : Program} {w : World} {A : Around} {E : Value → Shared → Prop} {s : Shared}

noncomputable def sIx (n d : Nat) : Option Int → Nat
  | none => d
  | some v => if v < 0 then (v + (n : Int)).toNat else min v.toNat n
end
end HT

namespace L2
open PySem PySem.Spec PyProof.Rows

noncomputable abbrev TO := St → Hp → (Option Int → Hp → Prop) → Prop
noncomputable def PO (X : Cx) (e : Option Expr) (t : TO) : Prop :=
  ∀ (pins : List (Addr × Obj)) (s : Shared) (σ : St) (H : Hp) (Q : Option Int → Hp → Prop), Inv X pins σ H s → t σ H Q →
    wpAny (model X.prog X.w) X.A (evalPart e X.env) (fun u s' => ∃ o H', Inv X pins σ H' s' ∧ IsPart u o ∧ Q o H') X.xe s
noncomputable def tNoPart : TO := fun _ H Q => Q none H
noncomputable def tPart (t : TE) : TO := fun σ H Q => t σ H fun x H1 => ∃ i, x = .int i ∧ Q (some i) H1

section
variable {X : Cx} {e : Expr} {te : TE} {lo hi : Option Expr} {tl th : TO} {pos p2 : Pos}

theorem po_none : PO X none tNoPart := by
  intro pins s σ H Q I h
  rw [evalPart_none]
  exact wpAny_pure ⟨none, H, I, .none, h⟩
theorem po_some (h : PE X e te) : PO X (some e) (tPart te) := by
  intro pins s σ H Q I hw
  rw [evalPart_some]
  refine thn (h pins s σ H _ I hw) fun u s1 ⟨x, H1, I1, r1, q1⟩ => ?_
  obtain ⟨i, rfl, q⟩ := q1
  obtain ⟨t, rfl⟩ := r1
  exact ⟨some i, H1, I1, .int i t, q⟩

noncomputable def SlR (X : Cx) (r : V → Option Int → Option Int → Hp → VK → Prop) : Prop :=
  ∀ (pins : List (Addr × Obj)) (s : Shared) (σ : St) (H : Hp) (x : V) (v vl vu : Value) (lo hi : Option Int) (sl : Addr) (Q : VK), Inv X pins σ H s → RelV x v → s.heap.IsSliceOf sl vl vu .none → IsPart vl lo → IsPart vu hi → r x lo hi H Q →
    ∃ T id, typeLookup (.type T) "__getitem__" = pure (some (.builtin id)) ∧ s.TypeIs v T ∧ wpAny (model X.prog X.w) X.A (getItem v (.ref sl)) (EP X pins σ Q) X.xe s
noncomputable def tSl (r : V → Option Int → Option Int → Hp → VK → Prop) (te : TE) (tl th : TO) : TE := fun σ H Q => te σ H fun x H1 => tl σ H1 fun l H2 => th σ H2 fun u H3 => r x l u H3 Q
theorem pe_slice {r : V → Option Int → Option Int → Hp → VK → Prop} (hr : SlR X r) (he : PE X e te) (hl : PO X lo tl) (hu : PO X hi th) : PE X (.Subscript e (.Slice lo hi none p2) pos) (tSl r te tl th) := by
  intro pins s σ H Q I h
  refine Subscript_ (thn (he pins s σ H _ I h) fun v s1 ⟨x, H1, I1, r1, q1⟩ => ?_)
  refine wpAny_Slice (thn (hl pins s1 σ H1 _ I1 q1) fun vl s2 ⟨l, H2, I2, pl, q2⟩ => thn (hu pins s2 σ H2 _ I2 q2) fun vu s3 ⟨u, H3, I3, pu, q3⟩ => ?_)
  rw [evalPart_none]
  refine wpAny_pure ?_
  have I4 : Inv X pins σ H3 { s3 with heap := s3.heap.push { cls := .type "slice", data := .fields #[vl, vu, .none] } } := I3.kept (t' := s3.toks) fun b ob q => Heap.get?_push_of_some _ q
  obtain ⟨T, id, hT, ht, hg⟩ := hr pins { s3 with heap := s3.heap.push { cls := .type "slice", data := .fields #[vl, vu, .none] } } σ H3 x v vl vu l u s3.heap.objs.size Q I4 r1 (Heap.IsSliceOf.new ..) pl pu q3
  show wpAny (model X.prog X.w) X.A (subscriptTail e (.Slice lo hi none p2) v (.ref s3.heap.objs.size)) (EP X pins σ Q) X.xe { s3 with heap := s3.heap.push { cls := .type "slice", data := .fields #[vl, vu, .none] } }
  exact tail_any (ops := [.ref s3.heap.objs.size, v]) ht hT hg (by with_unfolding_all rfl)

noncomputable def cutV (xs : List V) (lo hi : Option Int) : List V := (xs.drop (HT.sIx xs.length 0 lo)).take (HT.sIx xs.length xs.length hi - HT.sIx xs.length 0 lo)
theorem cutV_length (xs : List V) (lo hi : Option Int) : (cutV xs lo hi).length ≤ xs.length := by
  unfold cutV
  rw [List.length_take, List.length_drop]
  omega
end
end L2

namespace L2
open PySem PySem.Spec PyProof.Rows

noncomputable def ixN (n : Nat) (i : Int) : Option Nat := if 0 ≤ i then (if i < n then some i.toNat else none) else if -(n : Int) ≤ i then some (i + n).toNat else none
noncomputable def atI {α : Type} (xs : List α) (i : Int) : Option α := (ixN xs.length i).bind fun j => xs[j]?
theorem ixN_seq {n : Nat} {i : Int} {j : Nat} (h : ixN n i = some j) : seqIndex? i n = some j ∧ j < n ∧ -(n : Int) ≤ i ∧ i < n := by
  unfold ixN at h
  by_cases h0 : 0 ≤ i
  · rw [if_pos h0] at h
    by_cases h1 : i < n
    · rw [if_pos h1] at h
      have e : i.toNat = j := Option.some.inj h
      exact ⟨by rw [seqIndex_of h0 h1, e], by omega, by omega, h1⟩
    · rw [if_neg h1] at h; cases h
  · rw [if_neg h0] at h
    by_cases h1 : -(n : Int) ≤ i
    · rw [if_pos h1] at h
      have e : (i + n).toNat = j := Option.some.inj h
      exact ⟨by rw [seqIndex_neg (by omega) h1, e], by omega, h1, by omega⟩
    · rw [if_neg h1] at h; cases h
theorem atI_get {α : Type} {xs : List α} {i : Int} {v : α} (h : atI xs i = some v) : ∃ j, seqIndex? i xs.length = some j ∧ xs[j]? = some v ∧ j < xs.length ∧ -(xs.length : Int) ≤ i ∧ i < xs.length := by
  unfold atI at h
  cases e : ixN xs.length i with
  | none => rw [e] at h; cases h
  | some j =>
    rw [e] at h
    obtain ⟨h1, h2, h3, h4⟩ := ixN_seq e
    exact ⟨j, h1, h, h2, h3, h4⟩
theorem atI_nat {α : Type} {xs : List α} {j : Nat} {v : α} (h : xs[j]? = some v) : atI xs (j : Int) = some v := by
  have hj : j < xs.length := (List.getElem?_eq_some_iff.mp h).1
  have e : ixN xs.length (j : Int) = some j := by
    unfold ixN
    rw [if_pos (by omega), if_pos (by omega)]; simp
  unfold atI; rw [e]; exact h
theorem atI_last {α : Type} (xs : List α) (v : α) : atI (xs ++ [v]) (-1) = some v := by
  have hl : (xs ++ [v]).length = xs.length + 1 := by simp
  have e : ixN (xs ++ [v]).length (-1) = some xs.length := by
    unfold ixN
    rw [hl, if_neg (by decide), if_pos (by omega)]
    congr 1
    omega
  unfold atI
  rw [e]
  show (xs ++ [v])[xs.length]? = some v
  simp

noncomputable def PlainIx (b : Expr) : Prop := ∀ o i, subscripted b false o i = operate [o, i] (getItem o i)
noncomputable def IxR (X : Cx) (r : R2) : Prop :=
  ∀ (value slice : Expr) (pins : List (Addr × Obj)) (s : Shared) (σ : St) (H : Hp) (x y : V) (v u : Value) (Q : VK), Inv X pins σ H s → RelV x v → RelV y u → r x y H Q →
    subscripted slice false v u = operate [v, u] (getItem v u) → wpAny (model X.prog X.w) X.A (subscriptTail value slice v u) (EP X pins σ Q) X.xe s
noncomputable def MtR (X : Cx) (id : String) (r : V → List V → Hp → VK → Prop) : Prop :=
  ∀ (pins : List (Addr × Obj)) (s : Shared) (σ : St) (H : Hp) (x : V) (xs : List V) (v : Value) (us : List Value) (Q : VK), Inv X pins σ H s → RelV x v → Vals xs us → r x xs H Q →
    wpAny (model X.prog X.w) X.A (call (.builtin id) (v :: us)) (EP X pins σ Q) X.xe s
section
variable {X : Cx} {a b : Expr} {ta tb : TE} {pos : Pos}
theorem pe_ix {r : R2} (hr : IxR X r) (ha : PE X a ta) (hb : PE X b tb) (hs : PlainIx b) : PE X (.Subscript a b pos) (tOp r ta tb) := by
  intro pins s σ H Q I h
  exact Subscript_ (binT ha hb I h fun v u s2 x y H2 I2 rx ry q => hr a b pins s2 σ H2 x y v u Q I2 rx ry q (hs _ _))

noncomputable def rIxL (K : PySem.W.Frag) : R2 := fun x y H Q => ∃ p xs i v, x = .ref p ∧ y = .int i ∧ SqL K H p xs ∧ atI xs i = some v ∧ Q v H
noncomputable def rIxT (K : PySem.W.Frag) : R2 := fun x y H Q => ∃ p xs i v, x = .ref p ∧ y = .int i ∧ SqT K H p xs ∧ atI xs i = some v ∧ Q v H
noncomputable def rIxS : R2 := fun x y H Q => ∃ z i c, x = .str z ∧ y = .int i ∧ z.length ≤ sizeLine ∧ atI z.cps.toList i = some c ∧ Q (.str ⟨#[c]⟩) H
theorem ix_list : IxR X (rIxL X.K) := by
  intro value slice pins s σ H x y v u Q I rx ry h hs
  obtain ⟨p, xs, i, z, rfl, rfl, hq, he, q⟩ := h
  cases rx
  obtain ⟨t, rfl⟩ := ry
  obtain ⟨its, r, pl, hz⟩ := I.list hq
  obtain ⟨j, h1, h2, h3, h4, h5⟩ := atI_get he
  obtain ⟨w, ew, rw'⟩ := r.get h2
  have hl := r.length
  have hn := line63
  have fin : EP X pins σ Q w s := ⟨z, H, I, rw', q⟩
  by_cases h0 : 0 ≤ i
  · have hj : i.toNat = j := by
      rw [seqIndex_of h0 h5] at h1
      exact Option.some.inj h1
    exact item_listR pl.isList h0 (by omega) (by rw [hj]; simpa using ew) fin hs
  · have hj : (i + (its.toArray.size : Int)).toNat = j := by
      rw [seqIndex_neg (by omega) h4] at h1
      rw [List.size_toArray, ← hl]
      exact Option.some.inj h1
    exact subscriptTail_builtinR (x := w) pl.isList.typeIs slot_list_getitem.lookup
      (wpAny_getItem_list_neg (Q := fun r s' => r = w ∧ EP X pins σ Q r s') pl.isList (by omega) (by rw [List.size_toArray] <;> omega) (by omega) (by rw [hj]; simpa using ew) ⟨rfl, fin⟩) hs
theorem ix_tup : IxR X (rIxT X.K) := by
  intro value slice pins s σ H x y v u Q I rx ry h hs
  obtain ⟨p, xs, i, z, rfl, rfl, hq, he, q⟩ := h
  cases rx
  obtain ⟨t, rfl⟩ := ry
  obtain ⟨its, r, pl, hz⟩ := I.tuple hq
  obtain ⟨j, h1, h2, h3, h4, h5⟩ := atI_get he
  obtain ⟨w, ew, rw'⟩ := r.get h2
  have hl := r.length
  have hn := line63
  have fin : EP X pins σ Q w s := ⟨z, H, I, rw', q⟩
  exact subscriptTail_builtinR (x := w) pl.typeIs slot_tuple_getitem.lookup
    (getItem_tuple (j := j) (Q := fun r s' => r = w ∧ EP X pins σ Q r s') pl (by omega) (by omega) (by rw [List.size_toArray, ← hl]; exact h1) (by simpa using ew) ⟨rfl, fin⟩) hs
theorem ix_str : IxR X rIxS := by
  intro value slice pins s σ H x y v u Q I rx ry h hs
  obtain ⟨z, i, c, rfl, rfl, hz, he, q⟩ := h
  obtain ⟨t, rfl⟩ := rx
  obtain ⟨t', rfl⟩ := ry
  obtain ⟨j, h1, h2, h3, h4, h5⟩ := atI_get he
  have hl : z.cps.toList.length = z.length := by simp [Str.length]
  rw [hl] at h1 h4 h5
  have hn := line63
  exact tail_any (typeIs_str s z t) slot_str_getitem.lookup (getItem_str (c := c) (by
    have e1 : decide (i < -(2 ^ 63 : Int)) = false := decide_eq_false (by omega)
    have e2 : decide (i ≥ 2 ^ 63) = false := decide_eq_false (by omega)
    rw [e1, e2, Bool.or_false]) (by rw [h1]; simpa using h2) ⟨.str ⟨#[c]⟩, H, I.tok _, ⟨_, rfl⟩, q⟩) hs
theorem slice_bounds (lo hi : Option Int) (n : Nat) : (sliceBounds lo hi none n).1 = ((HT.sIx n 0 lo : Nat) : Int) ∧ (sliceBounds lo hi none n).2.1 = ((HT.sIx n n hi : Nat) : Int) ∧ (sliceBounds lo hi none n).2.2 = 1 := by
  refine ⟨?_, ?_, rfl⟩
  · cases lo with
    | none => simp [sliceBounds, HT.sIx]
    | some i =>
      simp only [sliceBounds, HT.sIx, Option.getD_none, show (1 : Int) > 0 by decide, if_true]
      by_cases h : i < 0
      · simp only [h, if_true] <;> omega
      · simp only [h, if_false] <;> omega
  · cases hi with
    | none => simp [sliceBounds, HT.sIx]
    | some i =>
      simp only [sliceBounds, HT.sIx, Option.getD_none, show (1 : Int) > 0 by decide, if_true]
      by_cases h : i < 0
      · simp only [h, if_true] <;> omega
      · simp only [h, if_false] <;> omega
theorem slicePick_cut (its : List Value) (lo hi : Option Int) : slicePick its.toArray lo hi none = ((its.drop (HT.sIx its.length 0 lo)).take (HT.sIx its.length its.length hi - HT.sIx its.length 0 lo)).toArray := by
  obtain ⟨h1, h2, h3⟩ := slice_bounds lo hi its.toArray.size
  unfold slicePick
  rw [h1, h2, h3]
  simp only [sliceRange_one, pick_run, List.size_toArray] <;> rfl
noncomputable def rSlL (K : PySem.W.Frag) : V → Option Int → Option Int → Hp → VK → Prop := fun x lo hi H Q => ∃ a xs, x = .ref a ∧ SqL K H a xs ∧ ∀ p, H p = none → Q (.ref p) (upd H p (.lst (cutV xs lo hi)))
theorem sl_list : SlR X (rSlL X.K) := by
  intro pins s σ H x v vl vu lo hi sl Q I rx hs pl pu h
  obtain ⟨a, xs, rfl, hx, q⟩ := h
  cases rx
  obtain ⟨its, r, ht, hz⟩ := I.list hx
  have hlen := r.length
  refine ⟨"list", _, slot_list_getitem.lookup, ht.isList.typeIs, ?_⟩
  refine wpAny_getItem_list_slice ht.isList hs pl pu .none (by simp) ?_ (by rw [List.size_toArray] <;> omega)
  rw [slicePick_cut, ← hlen]
  refine ⟨.ref s.heap.objs.size, _, I.laid (t' := s.toks) (o := .lst (cutV xs lo hi)) (fun b ob q => Heap.get?_push_of_some _ q) (Nat.le_refl _) ?_, rfl, q _ (I.hok.fresh (Nat.le_refl _))⟩
  exact ⟨Nat.le_trans (cutV_length xs lo hi) hz, _, 0, (r.drop (HT.sIx xs.length 0 lo)).take (HT.sIx xs.length xs.length hi - HT.sIx xs.length 0 lo), Heap.get?_push_size _ rfl⟩

noncomputable def flatV : V → Bool
  | .non => true
  | .bl _ => true
  | .int _ => true
  | .str _ => true
  | _ => false
noncomputable def eqV : V → V → Bool
  | .non, .non => true
  | .bl a, .bl b => a == b
  | .bl a, .int b => (if a then 1 else 0) == b
  | .int a, .bl b => a == (if b then 1 else 0)
  | .int a, .int b => a == b
  | .str a, .str b => a == b
  | _, _ => false
theorem eqAt_V {A : Around} {s : Shared} {y x : V} {u v : Value} (ry : RelV y u) (rx : RelV x v) (fy : flatV y = true) (fx : flatV x = true) : SeqAt.EqAt A s u v (eqV y x) := by
  cases y with
  | non =>
    cases ry
    cases x with
    | non => cases rx; exact SeqAt.EqAt.same _
    | bl b => cases rx; exact SeqAt.EqAt.none_bool b
    | int b => obtain ⟨t, rfl⟩ := rx; exact SeqAt.EqAt.none_int b t
    | str b => obtain ⟨t, rfl⟩ := rx; exact SeqAt.EqAt.none_str b t
    | _ => exact absurd (show false = true from fx) Bool.false_ne_true
  | bl a =>
    cases ry
    cases x with
    | non => cases rx; exact SeqAt.EqAt.bool_none a
    | bl b => cases rx; exact SeqAt.EqAt.bool_bool a b
    | int b => obtain ⟨t, rfl⟩ := rx; exact SeqAt.EqAt.bool_int a b t
    | str b => obtain ⟨t, rfl⟩ := rx; exact SeqAt.EqAt.bool_str a b t
    | _ => exact absurd (show false = true from fx) Bool.false_ne_true
  | int a =>
    obtain ⟨t', rfl⟩ := ry
    cases x with
    | non => cases rx; exact SeqAt.EqAt.int_none a t'
    | bl b => cases rx; exact SeqAt.EqAt.int_bool a t' b
    | int b => obtain ⟨t, rfl⟩ := rx; exact SeqAt.EqAt.int_int a t' b t
    | str b => obtain ⟨t, rfl⟩ := rx; exact SeqAt.EqAt.int_str a t' b t
    | _ => exact absurd (show false = true from fx) Bool.false_ne_true
  | str a =>
    obtain ⟨t', rfl⟩ := ry
    cases x with
    | non => cases rx; exact SeqAt.EqAt.str_none a t'
    | bl b => cases rx; exact SeqAt.EqAt.str_bool a t' b
    | int b => obtain ⟨t, rfl⟩ := rx; exact SeqAt.EqAt.str_int a t' b t
    | str b => obtain ⟨t, rfl⟩ := rx; exact SeqAt.EqAt.str_str a t' b t
    | _ => exact absurd (show false = true from fx) Bool.false_ne_true
  | _ => exact absurd (show false = true from fy) Bool.false_ne_true
noncomputable def eqU (x : V) (u : Value) : Bool := match u with
  | .none => eqV .non x
  | .bool b => eqV (.bl b) x
  | .int i _ => eqV (.int i) x
  | .str z _ => eqV (.str z) x
  | _ => false
theorem eqU_of {x y : V} {u : Value} (r : RelV y u) (f : flatV y = true) : eqU x u = eqV y x := by
  cases y with
  | non => cases r; rfl
  | bl b => cases r; rfl
  | int i => obtain ⟨t, rfl⟩ := r; rfl
  | str z => obtain ⟨t, rfl⟩ := r; rfl
  | _ => exact absurd (show false = true from f) Bool.false_ne_true
theorem any_eqU {x : V} : ∀ {xs : List V} {us : List Value}, Vals xs us → xs.all flatV = true → us.any (eqU x) = xs.any fun y => eqV y x
  | _, _, .nil, _ => rfl
  | y :: xs, u :: us, .cons r t, f => by
    rw [List.all_cons, Bool.and_eq_true] at f
    rw [List.any_cons, List.any_cons, eqU_of r f.1, any_eqU t f.2]
theorem mem_eqAt {A : Around} {s : Shared} {x : V} {v : Value} (rx : RelV x v) (fx : flatV x = true) : ∀ {xs : List V} {us : List Value}, Vals xs us → xs.all flatV = true → ∀ u ∈ us, SeqAt.EqAt A s u v (eqU x u)
  | _, _, .nil, _ => fun u hu => by cases hu
  | y :: xs, u :: us, .cons r t, f => fun u' hu => by
    rw [List.all_cons, Bool.and_eq_true] at f
    rcases List.mem_cons.mp hu with rfl | hu
    · rw [eqU_of r f.1]; exact eqAt_V r rx f.1 fx
    · exact mem_eqAt rx fx t f.2 u' hu
noncomputable def inV (x : V) (xs : List V) : Bool := xs.any fun y => eqV y x
noncomputable def rIn (K : PySem.W.Frag) (neg : Bool) : R2 := fun x y H Q => ∃ p xs, y = .ref p ∧ (SqL K H p xs ∨ SqT K H p xs) ∧ flatV x = true ∧ xs.all flatV = true ∧ Q (.bl (if neg then !inV x xs else inV x xs)) H
theorem op_in_seq : OpR X (compareOp .In) (rIn X.K false) := by
  intro pins s σ H x y v u Q I rx ry h
  obtain ⟨p, xs, rfl, hq, fx, fs, q⟩ := h
  cases ry
  rcases hq with hq | hq
  · obtain ⟨its, r, pl, hz⟩ := I.list hq
    refine SeqAt.in_listAt (eqU x) pl.isList (fun w hw => mem_eqAt rx fx r fs w (by simpa using hw)) ⟨.bl _, H, I, rfl, ?_⟩
    rw [show its.toArray.any (eqU x) = its.any (eqU x) by simp, any_eqU r fs]
    exact q
  · obtain ⟨its, r, pl, hz⟩ := I.tuple hq
    refine SeqAt.in_tupleAt (eqU x) pl (fun w hw => mem_eqAt rx fx r fs w (by simpa using hw)) ⟨.bl _, H, I, rfl, ?_⟩
    rw [show its.toArray.any (eqU x) = its.any (eqU x) by simp, any_eqU r fs]
    exact q
theorem op_notIn_seq : OpR X (compareOp .NotIn) (rIn X.K true) := by
  intro pins s σ H x y v u Q I rx ry h
  obtain ⟨p, xs, rfl, hq, fx, fs, q⟩ := h
  cases ry
  rcases hq with hq | hq
  · obtain ⟨its, r, pl, hz⟩ := I.list hq
    refine SeqAt.notIn_listAt (eqU x) pl.isList (fun w hw => mem_eqAt rx fx r fs w (by simpa using hw)) ⟨.bl _, H, I, rfl, ?_⟩
    rw [show its.toArray.any (eqU x) = its.any (eqU x) by simp, any_eqU r fs]
    exact q
  · obtain ⟨its, r, pl, hz⟩ := I.tuple hq
    refine SeqAt.notIn_tupleAt (eqU x) pl (fun w hw => mem_eqAt rx fx r fs w (by simpa using hw)) ⟨.bl _, H, I, rfl, ?_⟩
    rw [show its.toArray.any (eqU x) = its.any (eqU x) by simp, any_eqU r fs]
    exact q
theorem call_len_seq : CallR X (.builtin "len") (fun xs H Q => ∃ p ys, xs = [.ref p] ∧ (SqL X.K H p ys ∨ SqT X.K H p ys) ∧ Q (.int ys.length) H) := by
  intro pins s σ H xs us Q I r h
  obtain ⟨p, ys, rfl, hq, q⟩ := h
  obtain ⟨u, rfl, rx⟩ := vals1 r
  cases rx
  have hn := line63
  rcases hq with hq | hq
  · obtain ⟨its, r', pl, hz⟩ := I.list hq
    have hlen := r'.length
    exact Calls.call_len_list pl.isList (by simp only [List.size_toArray] <;> omega) ⟨.int ys.length, H, I.tok _, ⟨s.toks + 1, by rw [List.size_toArray, hlen]⟩, q⟩
  · obtain ⟨its, r', pl, hz⟩ := I.tuple hq
    have hlen := r'.length
    exact len_tuple pl (by simp only [List.size_toArray] <;> omega) ⟨.int ys.length, H, I.tok _, ⟨s.toks + 1, by rw [List.size_toArray, hlen]⟩, q⟩
theorem call_tuple_of : CallR X (.type "tuple") (fun xs H Q => ∃ p ys, xs = [.ref p] ∧ ((SqL X.K H p ys ∧ ∀ l, H l = none → Q (.ref l) (upd H l (.tup ys))) ∨ (SqT X.K H p ys ∧ Q (.ref p) H))) := by
  intro pins s σ H xs us Q I r h
  obtain ⟨p, ys, rfl, h⟩ := h
  obtain ⟨u, rfl, rx⟩ := vals1 r
  cases rx
  rcases h with ⟨hq, q⟩ | ⟨hq, q⟩
  · obtain ⟨its, r', pl, hz⟩ := I.list hq
    have hlen := r'.length
    refine call_tuple_list pl.isList (fun h' kp => ?_) (by simp only [List.size_toArray] <;> omega)
    have I1 : Inv X pins σ H { s with heap := h' } := I.kept (t' := s.toks) kp
    have I2 : Inv X pins σ (upd H h'.objs.size (.tup ys)) { s with heap := h'.push { cls := .type "tuple", data := .seq its.toArray } } :=
      I1.laid (t' := s.toks) (fun b o e => Heap.get?_push_of_some _ e) (Nat.le_refl _) (show ObjOk X.prog X.w _ _ _ (.tup ys) from ⟨hz, its, r', IsTup.new _ _⟩)
    exact ⟨.ref h'.objs.size, _, I2, rfl, q _ (I1.hok.fresh (Nat.le_refl _))⟩
  · obtain ⟨its, r', pl, hz⟩ := I.tuple hq
    exact call_tuple_same pl ⟨.ref p, H, I, rfl, q⟩

noncomputable def tyV (K : PySem.W.Frag) (T : String) (x : V) (H : Hp) : Prop := match x with
  | .str _ => T = "str"
  | .int _ => T = "int"
  | .ref p => (T = "list" ∧ ∃ xs, SqL K H p xs) ∨ (T = "tuple" ∧ ∃ o, K.lookup p = some o ∧ o.cls = .type "tuple" ∧ o.dict = none) ∨
      (T = "dict" ∧ ((∃ kvs, H p = some (.dK kvs)) ∨ ∃ kvs, H p = some (.dT kvs))) ∨ (T = "set" ∧ ∃ S n, H p = some (.set S n))
  | _ => False
theorem tyV_is {pins : List (Addr × Obj)} {σ : St} {H : Hp} {s : Shared} {T : String} {x : V} {v : Value} (I : Inv X pins σ H s) (r : RelV x v) (ty : tyV X.K T x H) :
    s.TypeIs v T ∧ ∀ a, v = .ref a → ∃ ob, s.heap.get? a = some ob ∧ ob.dict = none := by
  cases x with
  | str z =>
    obtain ⟨t, rfl⟩ := r
    cases (show T = "str" from ty)
    exact ⟨typeIs_str s z t, fun _ e => nomatch e⟩
  | int i =>
    obtain ⟨t, rfl⟩ := r
    cases (show T = "int" from ty)
    exact ⟨typeIs_int s i t, fun _ e => nomatch e⟩
  | ref p =>
    cases r
    rcases ty with ⟨rfl, xs, hq⟩ | ⟨rfl, o, hk, hc, hd⟩ | ⟨rfl, hk⟩ | ⟨rfl, S, n, hk⟩
    · obtain ⟨its, _, pl, _⟩ := I.list hq
      refine ⟨pl.isList.typeIs, fun a e => ?_⟩
      cases e
      obtain ⟨o, n, e, c, hd, _⟩ := pl
      exact ⟨o, e, hd⟩
    · refine ⟨⟨o, I.kIn p o hk, hc⟩, fun a e => ?_⟩
      cases e
      exact ⟨o, I.kIn _ o hk, hd⟩
    · have z : ∃ o, s.heap.get? p = some o ∧ o.ExactDict := by
        rcases hk with ⟨kvs, hk⟩ | ⟨kvs, hk⟩
        · obtain ⟨_, _, _, _, o, _, _, e, ex, _⟩ := I.hok p _ hk
          exact ⟨o, e, ex⟩
        · obtain ⟨_, _, _, _, o, _, _, e, ex, _⟩ := I.hok p _ hk
          exact ⟨o, e, ex⟩
      obtain ⟨o, e, ex⟩ := z
      refine ⟨⟨o, e, ex.1⟩, fun a e2 => ?_⟩
      cases e2
      exact ⟨o, e, ex.2.1⟩
    · obtain ⟨o, _, _, _, e, ex, _⟩ := I.hok p _ hk
      refine ⟨⟨o, e, ex.1⟩, fun a e2 => ?_⟩
      cases e2
      exact ⟨o, e, ex.2.1⟩
  | _ => exact False.elim ty
noncomputable def tBM0 (K : PySem.W.Frag) (T : String) (r : V → List V → Hp → VK → Prop) (to : TE) : TE := fun σ H Q => to σ H fun x H1 => tyV K T x H1 ∧ r x [] H1 Q
noncomputable def tBM (K : PySem.W.Frag) (T : String) (r : V → List V → Hp → VK → Prop) (to : TE) (t : TA) : TE := fun σ H Q => to σ H fun x H1 => tyV K T x H1 ∧ t σ H1 fun xs H2 => r x xs H2 Q
variable {o e : Expr} {es : List Expr} {to : TE} {t : TA} {name : Str} {apos cpos : Pos} {T id : String} {r : V → List V → Hp → VK → Prop}
theorem pe_bm0 (pa : PlainAttrs T) (slot : Slot T name id) (hty : typeOf (.builtin id) = pure (.type "method_descriptor")) (hm : MtR X id r) (ho : PE X o to)
    (hbase : attributeBase o name X.env (eval o X.env) = eval o X.env := by rfl) (hline : (apos.endLine == cpos.line) = true := by rfl) : PE X (.Call (.Attribute o name apos) [] [] cpos) (tBM0 X.K T r to) := by
  intro pins s σ H Q I h
  refine wpAny_Call_method0_late hbase hline (thn (ho pins s σ H _ I h) fun v s1 ⟨x, H1, I1, r1, ty, q1⟩ => ?_)
  obtain ⟨h1, h2⟩ := tyV_is I1 r1 ty
  exact ⟨T, id, pa, slot, hty, h1, h2, Calls.callWith_builtin rfl (PySem.evalArgs_none (hm pins s1 σ H1 x [] v [] Q I1 r1 .nil q1))⟩
theorem pe_bm (pa : PlainAttrs T) (slot : Slot T name id) (hty : typeOf (.builtin id) = pure (.type "method_descriptor")) (hm : MtR X id r) (ho : PE X o to) (ha : PA X (e :: es) t)
    (hbase : attributeBase o name X.env (eval o X.env) = eval o X.env := by rfl)
    (hfew : ((backTo cpos (starEach (e :: es) X.env)).all (fun x => !x.1) && (backToKw cpos (keywordEach [] X.env)).all (fun x => x.1.isSome)
      && decide ((e :: es).length + ([] : List Keyword).length + (if ([] : List Keyword).isEmpty then 0 else 1) < 30)) = true := by rfl)
    (hline : (apos.endLine == cpos.line) = true := by rfl) (hs : starEach (e :: es) X.env = (false, eval e X.env) :: starEach es X.env := by rfl) (hplain : (backTo cpos (starEach es X.env)).any (·.1) = false := by rfl) :
    PE X (.Call (.Attribute o name apos) (e :: es) [] cpos) (tBM X.K T r to t) := by
  intro pins s σ H Q I h
  refine wpAny_Call_method_late hbase hfew hline rfl (thn (ho pins s σ H _ I h) fun v s1 ⟨x, H1, I1, r1, ty, q1⟩ => ?_)
  obtain ⟨h1, h2⟩ := tyV_is I1 r1 ty
  refine ⟨T, id, pa, slot, hty, h1, h2, ?_⟩
  have hA := ha cpos pins s1 σ H1 _ I1 q1
  rw [hs] at hA ⊢
  refine Calls.callWith_builtin (by show (false || (backTo cpos (starEach es X.env)).any (·.1)) = false; rw [hplain] <;> rfl) (Calls.evalArgs_plain ?_)
  exact thn hA fun us s2 ⟨vs, H2, I2, r2, q2⟩ => hm pins s2 σ H2 x vs v us Q I2 r1 r2 q2
/- xs.append(e), list.index on a module's tuple .. are MtR facts of 06m -/
end
end L2

namespace L2
open PySem PySem.Spec PyProof.Rows

noncomputable def MtM (X : Cx) (id : String) (r : V → List V → Hp → VK → Prop) : Prop :=
  ∀ (pins : List (Addr × Obj)) (s : Shared) (σ : St) (H : Hp) (x : V) (xs : List V) (v : Value) (us : List Value) (Q : VK), Inv X pins σ H s → RelV x v → Vals xs us → r x xs H Q →
    wpAny (model X.prog X.w) X.A (call (.builtin id) (v :: us)) (EP X pins σ Q) X.xe s

theorem Vals.one : ∀ {x : V} {us : List Value}, Vals [x] us → ∃ u, us = [u] ∧ RelV x u
  | _, _, .cons r .nil => ⟨_, rfl, r⟩
theorem Vals.zero : ∀ {us : List Value}, Vals [] us → us = []
  | _, .nil => rfl
theorem Vals.dropLast {xs : List V} {us : List Value} (h : Vals xs us) : Vals xs.dropLast us.dropLast := by
  induction h with
  | nil => exact .nil
  | cons r t ih =>
    cases t with
    | nil => exact .nil
    | cons q t' => exact .cons r ih
theorem erase_last {α : Type} (l : List α) : l.eraseIdx (l.length - 1) = l.dropLast := by
  induction l with
  | nil => rfl
  | cons a r ih =>
    cases r with
    | nil => rfl
    | cons b r =>
      have e : (a :: b :: r).length - 1 = ((b :: r).length - 1) + 1 := by
        have h1 : (a :: b :: r).length = r.length + 2 := rfl
        have h2 : (b :: r).length = r.length + 1 := rfl
        omega
      rw [e, List.eraseIdx_cons_succ, ih]
      all_goals rfl
section
variable {X : Cx} {pins : List (Addr × Obj)} {σ : St} {H : Hp} {s : Shared} {l b : Addr} {xs ys zs : List V}

theorem Inv.lset {its its' : List Value} {n : Nat} {f : Array Value → Array Value} {t' : Nat} (I : Inv X pins σ H s) (hH : H l = some (.lst xs))
    (e : s.heap.get? l = some { cls := .type "list", data := .seq its.toArray n }) (hf : f its.toArray = its'.toArray) (hv : Vals ys its') (hz : ys.length ≤ sizeLine) :
    Inv X pins σ (upd H l (.lst ys)) { s with heap := s.heap.update l (Obj.mapSeq f), toks := t' } := by
  have q := PySem.IsL.update e f
  rw [hf] at q
  refine I.write (x := l) (e := l) (by rw [hH]; exact trivial) (.inl rfl) (fun b' u hb hu => (Heap.get?_update_other s.heap (Obj.mapSeq f) (Ne.symm hb)).trans hu) ⟨_, q⟩ ?_
  exact ⟨hz, its', _, hv, q⟩
theorem Inv.lstM (I : Inv X pins σ H s) (hH : H l = some (.lst xs)) : xs.length ≤ sizeLine ∧ ∃ (its : List Value) (n : Nat), Vals xs its ∧ xs.length = its.length ∧ s.heap.get? l = some { cls := .type "list", data := .seq its.toArray n } := by
  obtain ⟨z, its, n, r, e⟩ := I.hok l _ hH
  exact ⟨z, its, n, r, r.length, e⟩

end

section
variable {X : Cx}

noncomputable def rAppend : V → List V → Hp → VK → Prop := fun x vs H Q => ∃ l xs y, x = .ref l ∧ vs = [y] ∧ H l = some (.lst xs) ∧ xs.length < sizeLine ∧ Q .non (upd H l (.lst (xs ++ [y])))
theorem mt_append : MtM X "list.append" rAppend := by
  intro pins s σ H x vs v us Q I rx rv h
  obtain ⟨l, xs, y, rfl, rfl, hH, hz, q⟩ := h
  cases rx
  obtain ⟨u, rfl, ru⟩ := rv.one
  obtain ⟨z, its, n, r, hl, e⟩ := I.lstM hH
  refine call_meets F.slot_list_append ⟨_, e, rfl⟩ F.entry_list_append (F.args_list_append_2 _ _) (PySem.list_append l its.toArray n u (by rw [List.size_toArray]; omega)) ⟨e, ?_⟩
  refine ⟨.non, _, I.lset (its' := its ++ [u]) hH e (by simp) (r.append (.cons ru .nil)) ?_, rfl, q⟩
  rw [List.length_append, List.length_singleton]
  omega

noncomputable def rPop : V → List V → Hp → VK → Prop := fun x vs H Q => ∃ l xs y, x = .ref l ∧ vs = [] ∧ H l = some (.lst xs) ∧ xs[xs.length - 1]? = some y ∧ Q y (upd H l (.lst xs.dropLast))
theorem mt_pop : MtM X "list.pop" rPop := by
  intro pins s σ H x vs v us Q I rx rv h
  obtain ⟨l, xs, y, rfl, rfl, hH, hy, q⟩ := h
  cases rx
  have hus := rv.zero
  subst hus
  obtain ⟨z, its, n, r, hl, e⟩ := I.lstM hH
  obtain ⟨u, hu, ru⟩ := r.get hy
  have hy' : its.toArray[its.toArray.size - 1]? = some u := by
    show its.toArray[its.length - 1]? = some u
    rw [← Array.getElem?_toList, ← hl]
    exact hu
  refine call_meets F.slot_list_pop ⟨_, e, rfl⟩ F.entry_list_pop (F.args_list_pop_1 _) (MeetsSeq.list_pop_last l its.toArray n u hy' (by rw [List.size_toArray]; omega)) ⟨e, ?_⟩
  refine ⟨y, _, I.lset (its' := its.dropLast) hH e ?_ r.dropLast ?_, ru, q⟩
  · show its.toArray.eraseIdxIfInBounds (its.toArray.size - 1) = its.dropLast.toArray
    rw [List.size_toArray, List.eraseIdxIfInBounds_toArray, erase_last]
  · rw [List.length_dropLast]
    omega

end

section
variable {prog : Program} {w : World} {A : Around} {E : Value → Shared → Prop} {s : Shared}
set_option maxRecDepth 100000 in
end

section
variable {X : Cx}
end
end L2

namespace L2
open PySem PySem.Spec PyProof.Rows

section
variable {prog : Program} {w : World} {A : Around} {E : Value → Shared → Prop} {s : Shared} {l : Addr} {its : List Value} {ns : List Int} {Q : Value → Shared → Prop}
end

section
variable {X : Cx}
end

section
variable {X : Cx}
end

section
variable {X : Cx}
end

section
variable {X : Cx}
end

mutual
inductive Dp (K : PySem.W.Frag) (H : Hp) : V → PyData → Prop
  | non : Dp K H .non .none
  | bl (b : Bool) : Dp K H (.bl b) (.bool b)
  | int (i : Int) : Dp K H (.int i) (.int i)
  | str (x : Str) : Dp K H (.str x) (.str x)
  | lst {a : Addr} {xs : List V} {ds : List PyData} : SqL K H a xs → DpAll K H xs ds → Dp K H (.ref a) (.list ds)
  | tup {a : Addr} {xs : List V} {ds : List PyData} : SqT K H a xs → DpAll K H xs ds → Dp K H (.ref a) (.tuple ds)
inductive DpAll (K : PySem.W.Frag) (H : Hp) : List V → List PyData → Prop
  | nil : DpAll K H [] []
  | cons {v : V} {vs : List V} {d : PyData} {ds : List PyData} : Dp K H v d → DpAll K H vs ds → DpAll K H (v :: vs) (d :: ds)
end
section
variable {X : Cx} {pins : List (Addr × Obj)} {σ : St} {H : Hp} {s : Shared}
mutual
theorem Dp.reads (I : Inv X pins σ H s) : ∀ (d : PyData) (v : V) (u : Value), Dp X.K H v d → RelV v u → ∃ as, Reads s.heap u d as
  | .none, _, _, h, r => by
    cases h
    cases r
    exact ⟨_, Reads.none⟩
  | .bool b, _, _, h, r => by
    cases h
    cases r
    exact ⟨_, Reads.bool b⟩
  | .int i, _, _, h, r => by
    cases h
    obtain ⟨t, rfl⟩ := r
    exact ⟨_, Reads.int i t⟩
  | .str x, _, _, h, r => by
    cases h
    obtain ⟨t, rfl⟩ := r
    exact ⟨_, Reads.str x t⟩
  | .list ds, _, _, h, r => by
    cases h with
    | lst hs ha =>
      cases r
      obtain ⟨its, rv, ⟨o, n, ho, hc, _, hd⟩, _⟩ := I.list hs
      obtain ⟨as, hr⟩ := Dp.readsAll I ds _ its ha rv
      exact ⟨_, Reads.list ho hc hd hr⟩
  | .tuple ds, _, _, h, r => by
    cases h with
    | tup hs ha =>
      cases r
      obtain ⟨its, rv, ⟨o, ho, hc, n, hd⟩, _⟩ := I.tuple hs
      obtain ⟨as, hr⟩ := Dp.readsAll I ds _ its ha rv
      exact ⟨_, Reads.tuple ho hc hd hr⟩
  | .dict _, _, _, h, _ => by cases h
theorem Dp.readsAll (I : Inv X pins σ H s) : ∀ (ds : List PyData) (vs : List V) (us : List Value), DpAll X.K H vs ds → Vals vs us → ∃ as, ReadsAll s.heap us ds as
  | [], _, _, h, r => by
    cases h
    cases r
    exact ⟨_, ReadsAll.nil⟩
  | d :: ds, _, _, h, r => by
    cases h with
    | cons h1 h2 =>
      cases r with
      | cons r1 r2 =>
        obtain ⟨as, q1⟩ := Dp.reads I d _ _ h1 r1
        obtain ⟨bs, q2⟩ := Dp.readsAll I ds _ _ h2 r2
        exact ⟨_, ReadsAll.cons q1 q2⟩
end
end
section
variable {X : Cx}
noncomputable def rNeD (K : PySem.W.Frag) : R2 := fun x y H Q => ∃ d e, Dp K H x d ∧ Dp K H y e ∧ SeqAt.shaped d = true ∧ SeqAt.shaped e = true ∧ Q (.bl (!PyData.eqv d e)) H
theorem op_neD (hu : X.A.units + 64 < cLine) : OpR X (compareOp .NotEq) (rNeD X.K) := by
  intro pins s σ H x y v u Q I rx ry h
  obtain ⟨d, e, hd, he, sd, se, q⟩ := h
  obtain ⟨as, r1⟩ := Dp.reads I d x v hd rx
  obtain ⟨bs, r2⟩ := Dp.reads I e y u he ry
  exact SeqAt.compareNe_shaped r1 r2 sd se hu ⟨.bl _, H, I, rfl, q⟩
end
end L2

namespace L2
open PySem PySem.Spec PyProof.Rows
noncomputable abbrev CellAt (h : Heap) (c : Addr) (v : Option Value) : Prop := h.IsCell c v
noncomputable def relS (scope sc : Scope) : Scope :=
  { scope with names := scope.names.map fun (n, k) => if (k == .free && sc.kind == .function && sc.names.lookup n == some .cell) then (n, .cell) else (n, k) }

noncomputable def cloFrom (cells : List (Str × Addr)) : List (Str × NameKind) → List (Str × Addr) → List (Str × Addr)
  | [], acc => acc
  | (n, k) :: r, acc => if k == .free then cloFrom cells r ((n, (cells.lookup n).getD 0) :: acc) else cloFrom cells r acc

theorem closure_loop (env : Env) (f : Str × NameKind → List (Str × Addr) → Sem (ForInStep (List (Str × Addr))))
    (hf : ∀ n k c, f (n, k) c = if k == .free then (do let a ← cellOf env n; pure (.yield ((n, a) :: c))) else pure (.yield c)) :
    ∀ (names : List (Str × NameKind)) (acc : List (Str × Addr)), (∀ y ∈ names, y.2 = .free → ∃ c, env.cells.lookup y.1 = some c) → forIn names acc f = pure (cloFrom env.cells names acc)
  | [], acc, _ => by rw [List.forIn_nil]; rfl
  | (n, k) :: r, acc, h => by
    rw [List.forIn_cons, hf]
    have ih := fun acc => closure_loop env f hf r acc fun y hy => h y (List.mem_cons_of_mem _ hy)
    unfold cloFrom
    by_cases hk : (k == NameKind.free) = true
    · rw [if_pos hk, if_pos hk]
      obtain ⟨c, hc⟩ := h (n, k) List.mem_cons_self (by simpa using hk)
      have e : cellOf env n = pure c := by unfold cellOf; rw [hc]
      rw [e]
      have e2 : (env.cells.lookup n).getD 0 = c := by rw [hc]; rfl
      rw [e2]
      exact ih _
    · rw [if_neg hk, if_neg hk]
      exact ih _
theorem closure_ok {scope : Scope} {env : Env} (h : ∀ y ∈ scope.names, y.2 = .free → ∃ c, env.cells.lookup y.1 = some c) : closureFor scope env = pure (cloFrom env.cells scope.names []) := by
  simp only [closureFor]
  rw [closure_loop env _ (fun n k c => rfl) scope.names [] h]
  rfl

theorem mem_lookup {α : Type} : ∀ {l : List (Str × α)} {n : Str} {c : α}, (n, c) ∈ l → ∃ c', l.lookup n = some c'
  | (k, v) :: r, n, c, h => by
    rw [List.lookup_cons]
    cases hb : n == k with
    | true => exact ⟨_, rfl⟩
    | false =>
      rcases List.mem_cons.mp h with e | h
      · cases e; simp at hb
      · exact mem_lookup h

theorem cloFrom_mem {cells : List (Str × Addr)} : ∀ {names : List (Str × NameKind)} {acc : List (Str × Addr)} {n : Str} {c : Addr}, (n, c) ∈ cloFrom cells names acc → (n, c) ∈ acc ∨ ((n, .free) ∈ names ∧ c = (cells.lookup n).getD 0)
  | [], _, _, _, h => .inl h
  | (m, k) :: r, acc, n, c, h => by
    unfold cloFrom at h
    split at h
    · rename_i hk
      have hk : k = .free := by simpa using hk
      rcases cloFrom_mem h with h | ⟨h1, h2⟩
      · rcases List.mem_cons.mp h with e | h
        · cases e; exact .inr ⟨hk ▸ List.mem_cons_self, rfl⟩
        · exact .inl h
      · exact .inr ⟨List.mem_cons_of_mem _ h1, h2⟩
    · rcases cloFrom_mem h with h | ⟨h1, h2⟩
      · exact .inl h
      · exact .inr ⟨List.mem_cons_of_mem _ h1, h2⟩
theorem cloFrom_acc {cells : List (Str × Addr)} : ∀ {names : List (Str × NameKind)} {acc : List (Str × Addr)} {p : Str × Addr}, p ∈ acc → p ∈ cloFrom cells names acc
  | [], _, _, h => h
  | (m, k) :: r, acc, p, h => by
    unfold cloFrom
    split
    · exact cloFrom_acc (List.mem_cons_of_mem _ h)
    · exact cloFrom_acc h
theorem cloFrom_has {cells : List (Str × Addr)} : ∀ {names : List (Str × NameKind)} {acc : List (Str × Addr)} {n : Str}, (n, .free) ∈ names → (n, (cells.lookup n).getD 0) ∈ cloFrom cells names acc
  | (m, k) :: r, acc, n, h => by
    unfold cloFrom
    rcases List.mem_cons.mp h with e | h
    · cases e
      exact cloFrom_acc List.mem_cons_self
    · split
      · exact cloFrom_has h
      · exact cloFrom_has h

theorem cells_mem : ∀ {names : List (Str × NameKind)} {h : Heap} {acc : List (Str × Addr)} {x : Str} {c : Addr}, (x, c) ∈ cellsFrom h.objs.size names acc →
    (x, c) ∈ acc ∨ ((x, .cell) ∈ names ∧ h.objs.size ≤ c ∧ CellAt (pushCells h names) c none)
  | [], _, _, _, _, h => .inl h
  | (n, k) :: r, h, acc, x, c, hm => by
    unfold cellsFrom at hm
    unfold pushCells
    split at hm
    · rename_i hk
      rw [if_pos hk]
      have hk : k = .cell := by simpa using hk
      rw [← Heap.size_push h { cls := .type "cell", data := .cell none }] at hm
      rcases cells_mem hm with hm | ⟨h1, h2, h3⟩
      · rcases List.mem_cons.mp hm with e | hm
        · cases e
          exact .inr ⟨hk ▸ List.mem_cons_self, Nat.le_refl _, _, pushCells_keeps r _ _ _ (Heap.get?_push_size _ rfl), rfl⟩
        · exact .inl hm
      · rw [Heap.size_push] at h2
        exact .inr ⟨List.mem_cons_of_mem _ h1, Nat.le_of_succ_le h2, h3⟩
    · rename_i hk
      rw [if_neg hk]
      rcases cells_mem hm with hm | ⟨h1, h2, h3⟩
      · exact .inl hm
      · exact .inr ⟨List.mem_cons_of_mem _ h1, h2, h3⟩
theorem cells_acc : ∀ {names : List (Str × NameKind)} {n : Nat} {acc : List (Str × Addr)} {p : Str × Addr}, p ∈ acc → p ∈ cellsFrom n names acc
  | [], _, _, _, h => h
  | (m, k) :: r, n, acc, p, h => by
    unfold cellsFrom
    split
    · exact cells_acc (List.mem_cons_of_mem _ h)
    · exact cells_acc h
theorem cells_has : ∀ {names : List (Str × NameKind)} {n : Nat} {acc : List (Str × Addr)} {x : Str}, (x, .cell) ∈ names → ∃ c, (x, c) ∈ cellsFrom n names acc
  | (m, k) :: r, n, acc, x, h => by
    unfold cellsFrom
    rcases List.mem_cons.mp h with e | h
    · cases e
      exact ⟨n, cells_acc List.mem_cons_self⟩
    · split
      · exact cells_has h
      · exact cells_has h
theorem cells_inj : ∀ {names : List (Str × NameKind)} {h : Heap} {acc : List (Str × Addr)} {x y : Str} {c : Addr}, (∀ p ∈ acc, p.2 < h.objs.size) → (∀ x y c, (x, c) ∈ acc → (y, c) ∈ acc → x = y) →
    (x, c) ∈ cellsFrom h.objs.size names acc → (y, c) ∈ cellsFrom h.objs.size names acc → x = y
  | [], _, _, _, _, _, _, hi, h1, h2 => hi _ _ _ h1 h2
  | (n, k) :: r, h, acc, x, y, c, hl, hi, h1, h2 => by
    unfold cellsFrom at h1 h2
    split at h1
    · rename_i hk
      rw [if_pos hk] at h2
      rw [← Heap.size_push h { cls := .type "cell", data := .cell none }] at h1 h2
      refine cells_inj (h := h.push _) (fun p hp => ?_) (fun x y c a b => ?_) h1 h2
      · rw [Heap.size_push]
        rcases List.mem_cons.mp hp with rfl | hp
        · exact Nat.lt_succ_self _
        · exact Nat.lt_succ_of_lt (hl p hp)
      · rcases List.mem_cons.mp a with e | a <;> rcases List.mem_cons.mp b with e' | b
        · cases e; cases e'; rfl
        · cases e; exact absurd (hl _ b) (Nat.lt_irrefl _)
        · cases e'; exact absurd (hl _ a) (Nat.lt_irrefl _)
        · exact hi _ _ _ a b
    · rename_i hk
      rw [if_neg hk] at h2
      exact cells_inj hl hi h1 h2

theorem newEnv_comp {M : Model} {A : Around} {E : Value → Shared → Prop} {s : Shared} {scope : Scope} {globals : Addr} {closure : List (Str × Addr)} {qual : Str} {func : Option Addr} {code : Value} {around : Env} {builtins : Addr} {Q : Env → Shared → Prop}
    (h : Q (newEnv scope s.heap.objs.size globals (cellsFrom (s.heap.objs.size + 1) scope.names closure) qual func code (some around) builtins)
      { s with heap := pushCells (s.heap.push { cls := .type "dict", data := .dict #[] }) scope.names }) :
    wpAny M A (newFunctionEnv scope globals closure [] qual func code (some around) builtins) Q E s := by
  simp only [newFunctionEnv, Option.isSome_some, if_true]
  refine wpAny_bind (wpAny_alloc ?_)
  refine wpAny_bind (wpAny_layCells _ (fun n k c => rfl) scope.names closure _ _ ?_)
  rw [show ({ s with heap := s.heap.push { cls := .type "dict", data := .dict #[] } } : Shared).heap.objs.size = s.heap.objs.size + 1 from Heap.size_push ..]
  rw [List.forIn_nil]
  exact wpAny_bind (wpAny_pure (wpAny_pure h))

theorem lookup_relS {sc : Scope} : ∀ {names : List (Str × NameKind)} {x : Str} {k : NameKind},
    (names.map fun (n, k) => if (k == NameKind.free && sc.kind == .function && sc.names.lookup n == some .cell) then (n, NameKind.cell) else (n, k)).lookup x = some k →
    ∃ k', names.lookup x = some k' ∧ (k = k' ∨ (k' = .free ∧ k = .cell))
  | [], _, _, h => by simp at h
  | (n, k₀) :: r, x, k, h => by
    have ih := @lookup_relS sc r x k
    have h' : List.lookup x ((if (k₀ == NameKind.free && sc.kind == .function && sc.names.lookup n == some .cell) = true then (n, NameKind.cell) else (n, k₀)) :: (r.map _)) = some k := h
    cases hx : x == n with
    | true =>
      simp only [List.lookup_cons, hx]
      by_cases hc : (k₀ == NameKind.free && sc.kind == .function && sc.names.lookup n == some .cell) = true
      · rw [if_pos hc] at h'
        simp only [List.lookup_cons, hx] at h'
        cases h'
        simp only [Bool.and_eq_true, beq_iff_eq] at hc
        exact ⟨k₀, rfl, .inr ⟨hc.1.1, rfl⟩⟩
      · rw [if_neg hc] at h'
        simp only [List.lookup_cons, hx] at h'
        cases h'
        exact ⟨_, rfl, .inl rfl⟩
    | false =>
      simp only [List.lookup_cons, hx]
      by_cases hc : (k₀ == NameKind.free && sc.kind == .function && sc.names.lookup n == some .cell) = true
      · rw [if_pos hc] at h'
        simp only [List.lookup_cons, hx] at h'
        exact ih h'
      · rw [if_neg hc] at h'
        simp only [List.lookup_cons, hx] at h'
        exact ih h'
structure BlkOk (N : List Str) (sc scope : Scope) (own : List (Str × Nat)) : Prop where
  kind : scope.kind = .function
  uniq : ∀ y ∈ scope.names, scope.names.lookup y.1 = some y.2
  ix : ∀ p ∈ own, N[p.2]? = some p.1
  free : ∀ y ∈ scope.names, y.2 = .free → sc.names.lookup y.1 = some .cell ∨ sc.names.lookup y.1 = some .free
  own : ∀ y ∈ scope.names, y.2 = .local ∨ y.2 = .cell → y.1 ∈ own.map (·.1) ∨ y.1 ∉ N
noncomputable def wipe (σ : St) : List Nat → St
  | [] => σ
  | v :: vs => (wipe σ vs).set v none
theorem wipe_length (σ : St) : ∀ vs : List Nat, (wipe σ vs).length = σ.length
  | [] => rfl
  | v :: vs => by unfold wipe; rw [List.length_set, wipe_length σ vs]
theorem wipe_some {σ : St} {i : Nat} {x : V} : ∀ {vs : List Nat}, (wipe σ vs)[i]? = some (some x) → σ[i]? = some (some x) ∧ i ∉ vs
  | [], h => ⟨h, by simp⟩
  | v :: vs, h => by
    unfold wipe at h
    by_cases hi : v = i
    · subst hi
      by_cases hv : v < (wipe σ vs).length
      · rw [List.getElem?_set_self hv] at h; cases h
      · rw [List.getElem?_eq_none (by simpa using hv)] at h; cases h
    · rw [List.getElem?_set_ne hi] at h
      obtain ⟨h1, h2⟩ := wipe_some h
      exact ⟨h1, by simp only [List.mem_cons, not_or]; exact ⟨fun e => hi e.symm, h2⟩⟩

noncomputable abbrev Cx.blk (X : Cx) (s : Shared) (H : Hp) (scope : Scope) (cenv : Env) (fp : List Addr) : Cx := { X with s_0 := s, H_0 := H, env := cenv, outer := X.stack, ex := fp, fn := fun x => scope.names.lookup x == some .cell, pn := [], xe := fun _ _ => False }
section
variable {X : Cx} {pins : List (Addr × Obj)} {σ : St} {H : Hp} {s : Shared}
theorem block_start {scope : Scope} {own : List (Str × Nat)} {fp : List Addr} (I : Inv X pins σ H s) (ok : BlkOk X.N X.env.scope scope own) (hN : X.N.Nodup) (hfp : ∀ b ∈ fp, FpOk X pins H b ∧ b < s.heap.objs.size) :
    Inv (X.blk s H scope (compEnvC scope (cellsFrom (s.heap.objs.size + 1) scope.names (cloFrom X.env.cells scope.names [])) s.heap.objs.size X.env) fp) [] (wipe σ (own.map (·.2))) H { s with heap := pushCells (s.heap.push { cls := .type "dict", data := .dict #[] }) scope.names } := by
  have hfree : ∀ y ∈ scope.names, y.2 = .free → ∃ c, X.env.cells.lookup y.1 = some c := fun y hy e => by
    rcases ok.free y hy e with k | k
    · exact I.ok.has _ (.inl k)
    · exact I.ok.has _ (.inr k)
  generalize hcenv : compEnvC scope (cellsFrom (s.heap.objs.size + 1) scope.names (cloFrom X.env.cells scope.names [])) s.heap.objs.size X.env = cenv
  have kp : ∀ b o, s.heap.get? b = some o → (pushCells (s.heap.push { cls := .type "dict", data := .dict #[] }) scope.names).get? b = some o := fun b o e => pushCells_keeps _ _ _ _ (Heap.get?_push_of_some _ e)
  have hL : cenv.locals = s.heap.objs.size := by rw [← hcenv]; rfl
  have hcl : cenv.cells = cellsFrom (s.heap.objs.size + 1) scope.names (cloFrom X.env.cells scope.names []) := by rw [← hcenv]; rfl
  have hsc : cenv.scope = relS scope X.env.scope := by rw [← hcenv]; rfl
  rw [← Heap.size_push s.heap { cls := .type "dict", data := .dict #[] }] at hcl
  have cm : ∀ {y c}, (y, c) ∈ cloFrom X.env.cells scope.names [] → X.env.cells.lookup y = some c ∧ c < s.heap.objs.size := fun {y c} hm => by
    rcases cloFrom_mem hm with hm | ⟨h1, rfl⟩
    · cases hm
    · obtain ⟨c, hc⟩ := hfree _ h1 rfl
      rw [hc]
      obtain ⟨w, z⟩ := I.cell _ _ hc
      exact ⟨rfl, z.lt⟩
  have mem : ∀ {y c}, cenv.cells.lookup y = some c → (X.env.cells.lookup y = some c ∧ c < s.heap.objs.size) ∨ (s.heap.objs.size + 1 ≤ c ∧ CellAt (pushCells (s.heap.push { cls := .type "dict", data := .dict #[] }) scope.names) c none) := fun {y c} e => by
    rw [hcl] at e
    rcases cells_mem (PySem.mem_of_lookup e) with hm | ⟨_, h2, h3⟩
    · exact .inl (cm hm)
    · rw [Heap.size_push] at h2; exact .inr ⟨h2, h3⟩
  have look : ∀ {y}, scope.names.lookup y = some .free → ∃ c, cenv.cells.lookup y = some c ∧ X.env.cells.lookup y = some c := fun {y} hl => by
    have hy : (y, NameKind.free) ∈ scope.names := PySem.mem_of_lookup hl
    obtain ⟨c', e'⟩ := mem_lookup (cells_acc (names := scope.names) (n := (s.heap.push { cls := .type "dict", data := .dict #[] }).objs.size) (cloFrom_has (cells := X.env.cells) (acc := []) hy))
    rw [← hcl] at e'
    refine ⟨c', e', ?_⟩
    rw [hcl] at e'
    rcases cells_mem (PySem.mem_of_lookup e') with hm | ⟨h1, _, _⟩
    · exact (cm hm).1
    · have := ok.uniq _ h1
      rw [hl] at this; cases this
  have okB : (X.blk s H scope cenv fp).Ok := by
    refine ⟨I.ok.mod, by show cenv.scope.kind = _; rw [hsc]; exact ok.kind, by show cenv.globals = _; rw [← hcenv]; exact I.ok.glob, by show cenv.builtins = _; rw [← hcenv]; exact I.ok.blt, by show s.heap.objs.size ≤ cenv.locals; rw [hL]; exact Nat.le_refl _,
      fun y z c e1 e2 => ?_, fun y hy => ?_, fun y c z e => ?_, I.ok.hd, I.ok.frames, .inl rfl, fun b hb => ⟨?_, fun y c e z => ?_⟩, I.bs, Nat.le_trans I.ok.bsz I.sz, fun b o e hb => ?_, fun b hb z => ?_, I.stack, I.stkFree⟩
    · have e1 : cenv.cells.lookup y = some c := e1
      have e2 : cenv.cells.lookup z = some c := e2
      rw [hcl] at e1 e2
      refine cells_inj (fun p hp => ?_) (fun y z c a b => I.ok.inj y z c (cm a).1 (cm b).1) (PySem.mem_of_lookup e1) (PySem.mem_of_lookup e2)
      rw [Heap.size_push]
      exact Nat.lt_succ_of_lt (cm (y := p.1) (c := p.2) hp).2
    · show ∃ c, cenv.cells.lookup y = some c
      have key : ∀ k, cenv.kindOf y = some k → (k = .cell ∨ k = .free) → ∃ c, cenv.cells.lookup y = some c := fun k hk hk' => by
        unfold Env.kindOf at hk
        rw [hsc] at hk
        obtain ⟨k', e, r⟩ := lookup_relS hk
        have : k' = .cell ∨ k' = .free := by
          rcases r with rfl | ⟨rfl, _⟩
          · exact hk'
          · exact .inr rfl
        rcases this with rfl | rfl
        · obtain ⟨c, hm⟩ := cells_has (n := (s.heap.push { cls := .type "dict", data := .dict #[] }).objs.size) (acc := cloFrom X.env.cells scope.names []) (PySem.mem_of_lookup e)
          obtain ⟨c', e'⟩ := mem_lookup hm
          exact ⟨c', by rw [hcl]; exact e'⟩
        · obtain ⟨c, h1, _⟩ := look e
          exact ⟨c, h1⟩
      rcases hy with hy | hy
      · exact key _ hy (.inl rfl)
      · exact key _ hy (.inr rfl)
    · have z : (scope.names.lookup y == some NameKind.cell) = true := z
      have z : scope.names.lookup y = some .cell := by simpa using z
      have e : cenv.cells.lookup y = some c := e
      rw [hcl] at e
      rcases cells_mem (PySem.mem_of_lookup e) with hm | ⟨_, h2, _⟩
      · rcases cloFrom_mem hm with hm | ⟨h1, _⟩
        · cases hm
        · have q := ok.uniq _ h1
          rw [z] at q; cases q
      · rw [Heap.size_push] at h2
        exact Nat.le_of_succ_le h2
    · show b ≠ cenv.locals
      rw [hL]; exact Nat.ne_of_lt (hfp b hb).2
    · have e : cenv.cells.lookup y = some c := e
      rcases mem e with ⟨h1, _⟩ | ⟨h1, _⟩
      · exact (hfp b hb).1.2.2.2.2.1 y c h1 z
      · have h2 : s.heap.objs.size + 1 ≤ b := by rw [← z]; exact h1
        exact absurd (Nat.lt_of_lt_of_le (hfp b hb).2 (Nat.le_of_succ_le h2)) (Nat.lt_irrefl _)
    · rcases (hfp b hb).1.2.2.2.1 with z | z
      · exact I.ok.noex b o e z
      · exact absurd (Nat.lt_of_lt_of_le (Heap.lt_size e) (Nat.le_trans I.ok.bsz z)) (Nat.lt_irrefl _)
    · rcases List.mem_cons.mp (I.stkSub b z) with z | z
      · exact (hfp b hb).1.2.1 z
      · exact (hfp b hb).1.2.2.1 z
  refine ⟨okB, rfl, I.bare, Un.kept kp, ⟨fun _ => none, ?_, fun i y av e1 e2 e3 => ?_⟩, fun y c e => ?_, ?_, fun y c e => ?_, fun p hp => ?_, I.hok.kept kp, by rw [wipe_length]; exact I.len⟩
  · show Heap.Ns _ cenv.locals _
    rw [hL]
    exact Heap.Ns.keeps (Heap.Ns.new ..) fun b o e => pushCells_keeps _ _ _ _ e
  · obtain ⟨e2, hne⟩ := wipe_some e2
    have hfr : scope.names.lookup y = some .free ∧ (cenv.kindOf y = some .cell ∨ cenv.kindOf y = some .free) := by
      have key : ∀ k, cenv.scope.names.lookup y = some k → k = .local ∨ k = .cell ∨ k = .free → scope.names.lookup y = some .free ∧ (cenv.kindOf y = some .cell ∨ cenv.kindOf y = some .free) := fun k hk hk' => by
        have hk0 := hk
        rw [hsc] at hk
        obtain ⟨k', e, r⟩ := lookup_relS hk
        have no : ¬ (k' = .local ∨ k' = .cell) := fun hh => by
          rcases ok.own _ (PySem.mem_of_lookup e) hh with e' | e'
          · obtain ⟨p, hp, hpy⟩ := List.mem_map.mp e'
            have e3 := ok.ix p hp
            have : p.1 = y := hpy
            rw [this] at e3
            exact hne (List.mem_map.mpr ⟨p, hp, nodup_ix hN e3 e1⟩)
          · exact e' (List.mem_of_getElem? e1)
        rcases r with rfl | ⟨rfl, rfl⟩
        · rcases hk' with rfl | rfl | rfl
          · exact absurd (.inl rfl) no
          · exact absurd (.inr rfl) no
          · exact ⟨e, .inr hk0⟩
        · exact ⟨e, .inl hk0⟩
      have e3 : Vis cenv.scope y := e3
      rcases e3 with e3 | e3 | e3
      · exact key _ e3 (.inl rfl)
      · exact key _ e3 (.inr (.inl rfl))
      · exact key _ e3 (.inr (.inr rfl))
    obtain ⟨m, hn, hl⟩ := I.loc
    have hvis : Vis X.env.scope y := (ok.free _ (PySem.mem_of_lookup hfr.1) rfl).elim (fun k => .inr (.inl k)) (fun k => .inr (.inr k))
    obtain ⟨w, r, q⟩ := hl i y av e1 e2 hvis
    refine ⟨w, r, .inr ⟨hfr.2, ?_⟩⟩
    obtain ⟨c, h1, h2⟩ := look hfr.1
    rcases q with ⟨k, _⟩ | ⟨_, c', e', z⟩
    · have k : X.env.scope.names.lookup y = some .local := k
      rcases ok.free _ (PySem.mem_of_lookup hfr.1) rfl with k' | k' <;> rw [show X.env.scope.names.lookup y = _ from k'] at k <;> cases k
    · rw [h2] at e'; cases e'
      exact ⟨c, h1, z.keeps kp⟩
  · have e : cenv.cells.lookup y = some c := e
    rcases mem e with ⟨h1, _⟩ | ⟨_, z⟩
    · obtain ⟨w, z⟩ := I.cell y c h1
      exact ⟨w, z.keeps kp⟩
    · exact ⟨_, z⟩
  · show H cenv.locals = none
    rw [hL]; exact I.hok.fresh (Nat.le_refl _)
  · have e : cenv.cells.lookup y = some c := e
    rcases mem e with ⟨h1, _⟩ | ⟨h1, _⟩
    · exact I.freeC y c h1
    · exact I.hok.fresh (Nat.le_of_succ_le h1)
  · exact absurd (show p ∈ ([] : List (Addr × Obj)) ++ [] from hp) (by simp)

theorem app_ok {E : Value → Shared → Prop} {D : Addr} {xs : List V} {y : V} {v : Value} {Q : Value → Shared → Prop} (I : Inv X pins σ H s) (hD : H D = some (.lst xs)) (hz : xs.length < sizeLine) (r : RelV y v)
    (h : ∀ s', Inv X pins σ (upd H D (.lst (xs ++ [y]))) s' → Q .none s') : wpAny (model X.prog X.w) X.A (call (.builtin "list.append") [.ref D, v]) Q E s := by
  obtain ⟨hz', its, n, ri, e⟩ := I.hok D _ hD
  have hl := ri.length
  refine append_at (hsz := by rw [List.size_toArray]; omega) e fun h' sb ho' => ?_
  refine h { s with heap := h' } (I.write (t' := s.toks) (by rw [hD]; trivial) (.inl rfl) (fun b u hb q => (sb.2 b hb).trans q) ⟨_, ho'⟩ ⟨by rw [List.length_append]; exact hz, its ++ [v], n + 1, ri.append (.cons r .nil), ?_⟩)
  rw [ho']
  simp

noncomputable def PTs (X : Cx) (ifs : List Expr) (t : TT) : Prop :=
  ∀ (pins : List (Addr × Obj)) (s : Shared) (σ : St) (H : Hp) (Q : Bool → Hp → Prop), Inv X pins σ H s → t σ H Q →
    wpAny (model X.prog X.w) X.A (forIn ifs true fun c r => if r = true then do let ok ← isTrue c X.env (eval c X.env); pure (ForInStep.yield ok) else pure (ForInStep.yield r)) (TP X pins σ Q) X.xe s
noncomputable def tYes : TT := fun _ H Q => Q true H
theorem pts_nil : PTs X [] tYes := fun _ _ _ H _ I h => wpAny_tests_nil ⟨H, I, h⟩
end

theorem thnF {α : Type} {t : Sem α} {Q Q' : α → Shared → Prop} {M : Model} {A : Around} {E : Value → Shared → Prop} {s : Shared} (h : wpAny M A t Q (fun _ _ => False) s) (hQ : ∀ a s, Q a s → Q' a s) : wpAny M A t Q' E s := wpAny_mono h hQ fun _ _ z => False.elim z

theorem compLoop_any {prog : Program} {w : World} {A : Around} {R : Result → Shared → Prop} {s : Shared} {elt target iter : Expr} {ifs : List Expr} {scope : Scope} {pos : Pos} {it acc : Value} {env : Env} (I : Nat → Shared → Prop)
    (turn : ∀ n s, I n s → wpAny (model prog w) A (pyNext it) (fun r s₁ => match r with
      | none => R (.ok .next) s₁
      | some v => wpAny (model prog w) A (letOwnedTupleGo target it v) (fun _ s₁' => wpAny (model prog w) A (assign target env v) (fun _ s₂ =>
          wpAny (model prog w) A (forIn ifs true fun c r => if r = true then do let ok ← isTrue c env (eval c env); pure (ForInStep.yield ok) else pure (ForInStep.yield r)) (fun ok s₃ =>
            if ok = true then wpAny (model prog w) A (eval elt env) (fun x s₄ =>
              wpAny (model prog w) A (call (.builtin "list.append") [acc, x]) (fun _ s₅ => ∃ m, m < n ∧ I m s₅) (notedBy (model prog w) A env fun e s' => R (.error e) s') s₄) (notedBy (model prog w) A env fun e s' => R (.error e) s') s₃
            else ∃ m, m < n ∧ I m s₃) (notedBy (model prog w) A env fun e s' => R (.error e) s') s₂) (notedBy (model prog w) A env fun e s' => R (.error e) s') s₁') (notedBy (model prog w) A env fun e s' => R (.error e) s') s₁) (notedBy (model prog w) A env fun e s' => R (.error e) s') s)
    (n : Nat) (h : I n s) :
    codeAny (model prog w) A (.compLoop (.ListComp elt [⟨target, iter, ifs, 0⟩] scope pos) 0 it acc env) R s := by
  refine codeAny_loop rfl I (fun n s hI => ?_) n h
  show wpAny _ A ((compTurn (.ListComp elt [⟨target, iter, ifs, 0⟩] scope pos) 0 it acc env).onRaise (fun x => do noteFrame x env; theTreesLotGoes x)) _ _ s
  refine wpAny_noted ?_
  rw [compTurn_list]
  refine wpAny_bind (wpAny_standAt (wpAny_bind (wpAny_mono (turn n s hI) (fun r s₁ h₁ => ?_) fun _ _ h' => h')))
  cases r with
  | none => exact wpAny_pure h₁
  | some v =>
    refine wpAny_bind (wpAny_mono h₁ (fun _ s₁' h₁' => ?_) fun _ _ h' => h')
    refine wpAny_bind (wpAny_mono h₁' (fun _ s₂ h₂ => wpAny_bind (wpAny_mono h₂ (fun ok s₃ h₃ => ?_) fun _ _ h' => h')) fun _ _ h' => h')
    cases ok with
    | false => exact wpAny_pure ⟨rfl, h₃⟩
    | true =>
      exact wpAny_bind (wpAny_bind (wpAny_mono h₃ (fun x s₄ h₄ => wpAny_bind (wpAny_mono h₄ (fun _ s₅ h₅ => wpAny_pure (wpAny_pure ⟨rfl, h₅⟩)) fun _ _ h' => h')) fun _ _ h' => h'))

section
variable {X : Cx}
noncomputable def tLc (wi : TI) (g : TG) (tt : TT) (te : TE) (vs : List Nat) : TE := fun σ H Q => wi σ H fun J H1 => ∀ D, H1 D = none → ∃ W : Nat → Nat → Hp → Prop, (∃ m, W 0 m (upd H1 D (.lst []))) ∧ ∀ i m H, W i m H →
  (J.stop i H ∧ Q (.ref D) H) ∨ (J.go i H ∧ ∃ Nx : Hp → Prop, (∀ H', Nx H' → ∃ m', m' < m ∧ W (i + 1) m' H') ∧ ∀ x H', J.yld i H x H' → g x (wipe σ vs) H' fun σ2 H2 => wipe σ2 vs = wipe σ vs ∧ tt σ2 H2 fun b H3 =>
    if b = true then te σ2 H3 fun y H4 => ∃ acc, H4 D = some (.lst acc) ∧ acc.length < sizeLine ∧ Nx (upd H4 D (.lst (acc ++ [y]))) else Nx H3)
end

theorem lc_list {K : PySem.W.Frag} {a : Addr} {xs : List V} {g : TG} {tt : TT} {te : TE} {vs : List Nat} {σ : St} {H1 : Hp} {D : Addr} {Qd : Hp → Prop} (Pv : Nat → Hp → Prop) (h0 : Pv 0 (upd H1 D (.lst []))) (hl : ∀ i H, i ≤ xs.length → Pv i H → SqL K H a xs)
    (hs : ∀ i x H, xs[i]? = some x → Pv i H → g x (wipe σ vs) H fun σ2 H2 => wipe σ2 vs = wipe σ vs ∧ tt σ2 H2 fun b H3 =>
      if b = true then te σ2 H3 fun y H4 => ∃ acc, H4 D = some (.lst acc) ∧ acc.length < sizeLine ∧ Pv (i + 1) (upd H4 D (.lst (acc ++ [y]))) else Pv (i + 1) H3) (hd : ∀ H, Pv xs.length H → Qd H) :
    ∃ W : Nat → Nat → Hp → Prop, (∃ m, W 0 m (upd H1 D (.lst []))) ∧ ∀ i m H, W i m H →
      ((Itl K a).stop i H ∧ Qd H) ∨ ((Itl K a).go i H ∧ ∃ Nx : Hp → Prop, (∀ H', Nx H' → ∃ m', m' < m ∧ W (i + 1) m' H') ∧ ∀ x H', (Itl K a).yld i H x H' → g x (wipe σ vs) H' fun σ2 H2 => wipe σ2 vs = wipe σ vs ∧ tt σ2 H2 fun b H3 =>
        if b = true then te σ2 H3 fun y H4 => ∃ acc, H4 D = some (.lst acc) ∧ acc.length < sizeLine ∧ Nx (upd H4 D (.lst (acc ++ [y]))) else Nx H3) := by
  refine ⟨fun i m H => m = xs.length - i ∧ i ≤ xs.length ∧ Pv i H, ⟨xs.length, by simp, Nat.zero_le _, h0⟩, ?_⟩
  rintro i m H ⟨rfl, hi, p⟩
  have q := hl i H hi p
  by_cases hlt : i < xs.length
  · refine .inr ⟨⟨xs, xs[i], q, by simp [hlt]⟩, Pv (i + 1), fun H' p' => ⟨xs.length - (i + 1), by omega, rfl, hlt, p'⟩, fun x H' y => ?_⟩
    obtain ⟨e, y⟩ := y
    subst e
    exact hs i x _ (y xs q) p
  · have e : i = xs.length := by omega
    subst e
    exact .inl ⟨⟨xs, q, Nat.le_refl _⟩, hd H p⟩
noncomputable def blkC (N : List Str) (sc scope : Scope) (own : List (Str × Nat)) : Bool :=
  (match scope.kind with | .function => true | _ => false) && (scope.names.all fun y => decide (scope.names.lookup y.1 = some y.2)) && (own.all fun p => decide (N[p.2]? = some p.1)) &&
    (scope.names.all fun y => match y.2 with
      | .free => (match sc.names.lookup y.1 with | some .cell => true | some .free => true | _ => false)
      | .local => decide (y.1 ∈ own.map (·.1)) || decide (y.1 ∉ N)
      | .cell => decide (y.1 ∈ own.map (·.1)) || decide (y.1 ∉ N)
      | _ => true)
theorem blkOk_by {N : List Str} {sc scope : Scope} {own : List (Str × Nat)} (h : blkC N sc scope own = true) : BlkOk N sc scope own := by
  unfold blkC at h
  simp only [Bool.and_eq_true, List.all_eq_true, decide_eq_true_eq] at h
  obtain ⟨⟨⟨h1, h2⟩, h3⟩, h4⟩ := h
  refine ⟨?_, h2, h3, fun y hy e => ?_, fun y hy e => ?_⟩
  · split at h1
    · assumption
    · cases h1
  · have q := h4 y hy
    simp only [e] at q
    split at q <;> first | exact .inl (by assumption) | exact .inr (by assumption) | cases q
  · have q := h4 y hy
    rcases e with e | e <;> (simp only [e, Bool.or_eq_true, decide_eq_true_eq] at q; exact q)
end L2

namespace L2
open PySem PySem.Spec PyProof.Rows

section
variable {prog : Program} {w : World} {A : Around} {R : Result → Shared → Prop} {s : Shared} {elt t0 i0 t1 i1 : Expr} {ifs0 ifs1 : List Expr} {scope : Scope} {pos : Pos} {it acc : Value} {env : Env}
end

section
variable {X : Cx}
end
end L2

namespace L2
open PySem PySem.Spec PyProof.Rows

section
variable {κ : Type} [DecidableEq κ]
end


section
variable {P : Program} {w : World} {H : Hp} {h : Heap} {a : Addr}
end

section
variable {X : Cx} {pins : List (Addr × Obj)} {σ : St} {H : Hp} {s : Shared} {a : Addr} {y v : V} {u r : Value} {o : Option V} {A : Around} {E : Value → Shared → Prop}

end

section
variable {X : Cx} {pins : List (Addr × Obj)} {σ : St} {H : Hp} {s : Shared} {a : Addr} {kvs : List (Key × V)} {k : Key} {u : Value} {A : Around} {E : Value → Shared → Prop}
end


section
variable {X : Cx} {o i e value : Expr} {pos pos' tpos : Pos} {td ty tv : TE}
end


section
variable {X : Cx} {pos : Pos}
end

structure M1 (X : Cx) (o : Expr) (m : Str) (apos : Pos) (e : Expr) (cpos : Pos) : Prop where
  base : attributeBase o m X.env (eval o X.env) = eval o X.env
  few : ((backTo cpos (starEach [e] X.env)).all (fun x => !x.1) && (backToKw cpos (keywordEach [] X.env)).all (fun x => x.1.isSome)
    && decide (([e] : List Expr).length + ([] : List Keyword).length + (if ([] : List Keyword).isEmpty then 0 else 1) < 30)) = true
  line : (apos.endLine == cpos.line) = true
  trees : backTo cpos (starEach [e] X.env) = [(false, eval e X.env)]
structure M2 (X : Cx) (o : Expr) (m : Str) (apos : Pos) (e f : Expr) (cpos : Pos) : Prop where
  base : attributeBase o m X.env (eval o X.env) = eval o X.env
  few : ((backTo cpos (starEach [e, f] X.env)).all (fun x => !x.1) && (backToKw cpos (keywordEach [] X.env)).all (fun x => x.1.isSome)
    && decide (([e, f] : List Expr).length + ([] : List Keyword).length + (if ([] : List Keyword).isEmpty then 0 else 1) < 30)) = true
  line : (apos.endLine == cpos.line) = true
  trees : backTo cpos (starEach [e, f] X.env) = [(false, eval e X.env), (false, eval f X.env)]

section
variable {X : Cx} {pins : List (Addr × Obj)} {σ : St} {H : Hp} {s : Shared} {a : Addr} {y d : V} {u r : Value} {o : Option V} {A : Around} {E : Value → Shared → Prop}
end

section
variable {X : Cx} {o e f : Expr} {apos cpos : Pos} {td ty tx : TE}
end

section
variable {X : Cx} {pins : List (Addr × Obj)} {σ : St} {H : Hp} {s : Shared} {a : Addr} {kvs : List (Key × V)} {A : Around} {E : Value → Shared → Prop}
end


section
variable {X : Cx} {pins : List (Addr × Obj)} {σ : St} {H : Hp} {s : Shared} {a : Addr} {y : V} {u : Value} {A : Around} {E : Value → Shared → Prop}
end
end L2

namespace L2
open PySem PySem.Spec PyProof.Rows

section
variable {prog : Program} {w : World} {A : Around} {E : Value → Shared → Prop}
end

section
variable {X : Cx}
end
end L2

namespace L2
open PySem PySem.Spec PyProof.Rows

section
variable {X : Cx} {pins : List (Addr × Obj)} {σ : St} {H : Hp} {s : Shared} {h' : Heap}
theorem Inv.turnedL {t' : Nat} {ch : List Addr} (I : Inv X pins σ H s) (k : ∀ b o, b ∉ ch → s.heap.get? b = some o → h'.get? b = some o) (hf : ∀ b ∈ ch, FpOk X pins H b) : Inv X pins σ H { s with heap := h', toks := t' } := by
  have nit : ∀ b u, H b = some u → b ∉ ch := fun b u e z => by
    have q := (hf b z).1
    rw [q] at e; cases e
  refine I.step (g' := s.gens) (d' := s.drawn) (ch := ch) (fun b hb => ⟨(hf b hb).2.2.2.1, (hf b hb).2.1, (hf b hb).2.2.2.2.1, (hf b hb).2.2.2.2.2⟩) (fun b o _ _ hc e _ => k b o hc e) (fun b o _ _ hc e _ => ⟨o.slots, k b o hc e⟩)
    (fun _ _ _ _ n => n) (fun b o hc e => ⟨o, k b o hc e⟩) (fun _ _ e => e) (fun _ _ _ e => e) (fun b ps e => ⟨#[], by rw [e]; simp⟩) (fun m hm => ?_) (fun b u e => ?_) I.bare
  · obtain ⟨o, es, ep, ho, r⟩ := hm
    exact ⟨o, es, ep, k _ o (fun z => (hf _ z).2.1 rfl) ho, r⟩
  · refine (I.hok b u e).stay (fun c v hc q => k c v ?_ q) (fun _ q => q) fun _ _ q => q
    rcases hc with z | z
    · rw [z]; exact nit b u e
    · exact nit c _ z
theorem Inv.turnedNew {t' : Nat} {ch : List Addr} {T : Addr} {ob : HO} (I : Inv X pins σ H s) (k : ∀ b o, b ∉ ch → s.heap.get? b = some o → h'.get? b = some o) (hf : ∀ b ∈ ch, FpOk X pins H b) (hT : s.heap.objs.size ≤ T)
    (new : ObjOk X.prog X.w (upd H T ob) h' T ob) : Inv X pins σ (upd H T ob) { s with heap := h', toks := t' } := by
  have hn : H T = none := I.hok.fresh hT
  have nit : ∀ b u, H b = some u → b ∉ ch := fun b u e z => by
    have q := (hf b z).1
    rw [q] at e; cases e
  refine I.step (g' := s.gens) (d' := s.drawn) (ch := ch) (fun b hb => ⟨(hf b hb).2.2.2.1, (hf b hb).2.1, (hf b hb).2.2.2.2.1, (hf b hb).2.2.2.2.2⟩) (fun b o _ _ hc e _ => k b o hc e) (fun b o _ _ hc e _ => ⟨o.slots, k b o hc e⟩)
    (fun b o _ e n => ?_) (fun b o hc e => ⟨o, k b o hc e⟩) (fun b xs e => ?_) (fun b o u e => ?_) (fun b ps e => ⟨#[], ?_⟩) (fun m hm => ?_) (fun b u e => ?_) I.bare
  · rw [upd_ne (Nat.ne_of_lt (Nat.lt_of_lt_of_le (Heap.lt_size e) hT))]; exact n
  · rw [upd_ne (ne_of_none e hn)]; exact e
  · rw [upd_ne (ne_of_none e hn)]; exact e
  · rw [upd_ne (ne_of_none e hn), e]; simp
  · obtain ⟨o, es, ep, ho, r⟩ := hm
    exact ⟨o, es, ep, k _ o (fun z => (hf _ z).2.1 rfl) ho, r⟩
  · by_cases hb : b = T
    · subst hb
      rw [upd_same] at e
      cases e
      exact new
    · rw [upd_ne hb] at e
      refine (I.hok b u e).stay (fun c v hc q => k c v ?_ q) (fun c q => by rw [upd_ne (ne_of_none q hn)]; exact q) fun c xs q => by rw [upd_ne (ne_of_none q hn)]; exact q
      rcases hc with z | z
      · rw [z]; exact nit b u e
      · exact nit c _ z

end
section
variable {X : Cx}
end

section
variable {X : Cx} {tg : Expr}
end
section
variable {X : Cx} {tg : Expr}
end

section
variable {prog : Program} {w : World} {A : Around} {E : Value → Shared → Prop} {s : Shared}
end

section
variable {X : Cx} {pins : List (Addr × Obj)} {σ : St} {H : Hp} {s : Shared} {d : Addr} {o : Obj}
end

section
variable {P : Program} {w : World} {K : PySem.W.Frag} {tg : Expr} {d : Addr} {o : Obj} {es : Array DictEntry} {ep : Nat}
end

section
variable {X : Cx} {tg e : Expr} {td : TE} {apos cpos : Pos}
end

noncomputable def Ite (K : PySem.W.Frag) (a : Addr) : It :=
  ⟨fun i H => ∃ (xs : List V) (x : V), SqL K H a xs ∧ xs[i]? = some x, fun i H v H' => ∃ T x, v = .ref T ∧ H T = none ∧ H' = upd H T (.tup [.int (i : Nat), x]) ∧ ∀ xs, SqL K H a xs → xs[i]? = some x, fun i H => ∃ xs : List V, SqL K H a xs ∧ xs.length ≤ i⟩
theorem turn_enum {P : Program} {w : World} {K : PySem.W.Frag} {elts : List Expr} {kk : Nat} {tpos : Pos} (a e it : Addr) :
    Turn P w K (.Tuple elts kk tpos) (Ite K a) [e, it] e (fun i h => (∃ old, IsEnum h e it ((i : Nat) : Int) old) ∧ h.IsListIter it a i ∧ e ≠ it) where
  mem := by simp
  obj := fun i h st b hb => by
    obtain ⟨⟨old, he⟩, ⟨o, ho, hc, hd⟩, _⟩ := st
    have e' : b = e ∨ b = it := by simpa using hb
    rcases e' with z | z
    · rw [z]; exact ⟨_, he, fun v q => nomatch q⟩
    · rw [z]; exact ⟨o, ho, fun v q => by rw [hd] at q; cases q⟩
  keep := fun i h h' st k => let ⟨⟨old, he⟩, hi, hne⟩ := st; ⟨⟨old, k e (by simp) _ he⟩, hi.at fun o q => k it (by simp) o q, hne⟩
  item := by
    intro X hP hw hK hc i pins s σ H E I hf st hg
    subst hP hw hK
    obtain ⟨⟨old, he⟩, hit, hne⟩ := st
    obtain ⟨xs, x, hq, hx⟩ := hg
    obtain ⟨its, rv, p, hz⟩ := I.list hq
    obtain ⟨u, hu, ru⟩ := rv.get hx
    have hel : e < s.heap.objs.size := Heap.lt_size he
    have hil : it < s.heap.objs.size := by obtain ⟨_, q, _⟩ := hit; exact Heap.lt_size q
    refine wpAny_pyNext_enum_item he hit p.isList (x := u) (by simpa using hu) hne fun h' ho hit' hT hsz hk => ?_
    refine ⟨_, rfl, wpAny_letOwnedTupleGo_enum (s := { s with heap := h', toks := s.toks + 1 }) ho fun h'' he' sb => ?_⟩
    have hT2 : h''.get? s.heap.objs.size = some { cls := .type "tuple", data := .seq #[.int i s.toks, u] } := (sb.2 _ (Nat.ne_of_gt hel)).trans hT
    have new : ObjOk X.prog X.w (upd H s.heap.objs.size (.tup [.int (i : Nat), x])) h'' s.heap.objs.size (.tup [.int (i : Nat), x]) :=
      ⟨by show 2 ≤ sizeLine; decide, [.int i s.toks, u], .cons ⟨_, rfl⟩ (.cons ru .nil), ⟨_, hT2, rfl, _, rfl⟩⟩
    have I1 : Inv X pins σ (upd H s.heap.objs.size (.tup [.int (i : Nat), x])) { s with heap := h'', toks := s.toks + 1 } :=
      I.turnedNew (ch := [e, it]) (fun b ob hb q => (sb.2 b (fun z => hb (by simp [z]))).trans (hk b ob (fun z => hb (by simp [z])) (fun z => hb (by simp [z])) q)) hf (Nat.le_refl _) new
    refine ⟨.ref s.heap.objs.size, _, I1, rfl, ⟨_, x, rfl, I.hok.fresh (Nat.le_refl _), rfl, fun ys hy => by rw [I.list_inj hy hq]; exact hx⟩, ⟨⟨u, ?_⟩, hit'.at fun o q => (sb.2 it (Ne.symm hne)).trans q, hne⟩, fun b hb => ?_⟩
    · have e1 : ((i + 1 : Nat) : Int) = (i : Int) + 1 := by omega
      rw [e1]; exact he'
    · have hb' : b < s.heap.objs.size := by
        have e' : b = e ∨ b = it := by simpa using hb
        rcases e' with z | z
        · rw [z]; exact hel
        · rw [z]; exact hil
      rw [upd_ne (Nat.ne_of_lt hb')]
      exact (hf b hb).1
  done := by
    intro X hP hw hK hc i pins s σ H E I hf st hg
    subst hP hw hK
    obtain ⟨⟨old, he⟩, hit, hne⟩ := st
    obtain ⟨xs, hq, hx⟩ := hg
    obtain ⟨its, rv, p, hz⟩ := I.list hq
    obtain ⟨f0, f1, f2, f3, f4, f5⟩ := hf it (by simp)
    have hl := rv.length
    exact wpAny_pyNext_enum_end (I.ok.hd hc) he hit p.isList (by simp; omega) fun h' eb => ⟨rfl, I.turned (t' := s.toks) (fun b o hb q => eb b o hb q) f0 f1 f3 f4 f5⟩
  self := fun A i s Q E st h => let ⟨⟨_, he⟩, _⟩ := st; wpAny_pyIter_enum he h
noncomputable def iEnum (K : PySem.W.Frag) (ta : TA) : TI := fun σ H R => ta σ H fun vs H1 => ∃ a xs, vs = [.ref a] ∧ SqL K H1 a xs ∧ R (Ite K a) H1
theorem pi_enum {X : Cx} {e : Expr} {ta : TA} {p pos tpos : Pos} {elts : List Expr} {kk : Nat} (hg : Gl X "enumerate") (hm : X.mg "enumerate" = none) (ha : PA X [e] ta) (hs : starEach [e] X.env = [(false, eval e X.env)] := by rfl) :
    PI X (.Tuple elts kk tpos) (.Call (.Name "enumerate" p) [e] [] pos) (iEnum X.K ta) := by
  intro pins s σ H R I h
  refine Call_ (ld_blt I hg hm boot_enumerate (PyProof.Rows.callWith_type1 (thn (ha pos pins s σ H _ I h) fun us s1 ⟨vs, H1, I1, r1, q1⟩ => ?_) hs rfl))
  obtain ⟨a, xs, ex, hq, q⟩ := q1
  subst ex
  cases r1 with
  | cons r rr =>
    cases rr
    cases r
    obtain ⟨its, rv, p', hz⟩ := I1.list hq
    refine call_enumerate_list p'.isList fun h' he hit hsz hk => wpAny_pyIter_enum he ?_
    have I2 : Inv X pins σ H1 { s1 with heap := h' } := I1.kept (t' := s1.toks) hk
    refine ⟨s1.heap.objs.size + 1, [s1.heap.objs.size + 1, s1.heap.objs.size], _, _, H1, rfl, I2, turn_enum a (s1.heap.objs.size + 1) s1.heap.objs.size, ⟨⟨.none, he⟩, hit, Nat.succ_ne_self _⟩, fun b hb => ?_, q⟩
    have e' : b = s1.heap.objs.size + 1 ∨ b = s1.heap.objs.size := by simpa using hb
    have hle : s1.heap.objs.size ≤ b := by
      rcases e' with z | z
      · rw [z]; exact Nat.le_add_right _ _
      · rw [z]; exact Nat.le_refl _
    exact I1.fpOk hle (I1.hok.fresh hle)
theorem boot_zip5 : bootBuiltins "zip" = some (.type "zip") := by decide +kernel
noncomputable def Itz (K : PySem.W.Frag) (a b : Addr) : It :=
  ⟨fun i H => ∃ (xs ys : List V) (x y : V), SqL K H a xs ∧ SqL K H b ys ∧ xs[i]? = some x ∧ ys[i]? = some y,
    fun i H v H' => ∃ T x y, v = .ref T ∧ H T = none ∧ H' = upd H T (.tup [x, y]) ∧ (∀ xs, SqL K H a xs → xs[i]? = some x) ∧ ∀ ys, SqL K H b ys → ys[i]? = some y,
    fun i H => ∃ xs ys : List V, SqL K H a xs ∧ SqL K H b ys ∧ (xs.length ≤ i ∨ ys.length ≤ i)⟩
theorem turn_zip {P : Program} {w : World} {K : PySem.W.Frag} {elts : List Expr} {kk : Nat} {tpos : Pos} {a b z TI TO i1 i2 : Addr} (D : ZipApart z TI TO i1 i2 a b) :
    Turn P w K (.Tuple elts kk tpos) (Itz K a b) [z, TI, TO, i1, i2] z (fun i h => IsZip h z TI TO .none ∧ IsPair h TI (.ref i1) (.ref i2) ∧ (∃ x y, IsPair h TO x y) ∧ h.IsListIter i1 a i ∧ h.IsListIter i2 b i) where
  mem := by simp
  obj := fun i h st c hc => by
    obtain ⟨hz, hTI, ⟨x, y, hTO⟩, ⟨o1, e1, _, d1⟩, ⟨o2, e2, _, d2⟩⟩ := st
    have e' : c = z ∨ c = TI ∨ c = TO ∨ c = i1 ∨ c = i2 := by simpa using hc
    rcases e' with q | q | q | q | q
    · rw [q]; exact ⟨_, hz, fun v q => nomatch q⟩
    · rw [q]; exact ⟨_, hTI, fun v q => nomatch q⟩
    · rw [q]; exact ⟨_, hTO, fun v q => nomatch q⟩
    · rw [q]; exact ⟨o1, e1, fun v q => by rw [d1] at q; cases q⟩
    · rw [q]; exact ⟨o2, e2, fun v q => by rw [d2] at q; cases q⟩
  keep := fun i h h' st k => by
    obtain ⟨hz, hTI, ⟨x, y, hTO⟩, h1, h2⟩ := st
    exact ⟨k z (by simp) _ hz, k TI (by simp) _ hTI, ⟨x, y, k TO (by simp) _ hTO⟩, h1.at fun o q => k i1 (by simp) o q, h2.at fun o q => k i2 (by simp) o q⟩
  item := by
    intro X hP hw hK hc i pins s σ H E I hf st hg
    subst hP hw hK
    obtain ⟨hz, hTI, ⟨x0, y0, hTO⟩, h1, h2⟩ := st
    obtain ⟨xs, ys, x, y, hqx, hqy, hx, hy⟩ := hg
    obtain ⟨its, rv, p, _⟩ := I.list hqx
    obtain ⟨its2, rv2, p2, _⟩ := I.list hqy
    obtain ⟨u, hu, ru⟩ := rv.get hx
    obtain ⟨u2, hu2, ru2⟩ := rv2.get hy
    have hzl : z < s.heap.objs.size := Heap.lt_size hz
    refine wpAny_pyNext_zip_item D hz hTI hTO h1 h2 p.isList p2.isList (x := u) (y := u2) (by simpa using hu) (by simpa using hu2) fun h' z' TO' h1' h2' hT hsz hk => ?_
    refine ⟨_, rfl, wpAny_letOwnedTupleGo_zip (s := { s with heap := h' }) z' fun h'' z'' sb => ?_⟩
    have hT2 : h''.get? s.heap.objs.size = some { cls := .type "tuple", data := .seq #[u, u2] } := (sb.2 _ (Nat.ne_of_gt hzl)).trans hT
    have new : ObjOk X.prog X.w (upd H s.heap.objs.size (.tup [x, y])) h'' s.heap.objs.size (.tup [x, y]) :=
      ⟨by show 2 ≤ sizeLine; decide, [u, u2], .cons ru (.cons ru2 .nil), ⟨_, hT2, rfl, _, rfl⟩⟩
    have I1 : Inv X pins σ (upd H s.heap.objs.size (.tup [x, y])) { s with heap := h'' } :=
      I.turnedNew (t' := s.toks) (ch := [z, TI, TO, i1, i2]) (fun c o hb q => (sb.2 c (fun q' => hb (by simp [q']))).trans (hk c o (fun q' => hb (by simp [q'])) (fun q' => hb (by simp [q'])) (fun q' => hb (by simp [q'])) (fun q' => hb (by simp [q'])) q)) hf (Nat.le_refl _) new
    refine ⟨.ref s.heap.objs.size, _, I1, rfl, ⟨_, x, y, rfl, I.hok.fresh (Nat.le_refl _), rfl, fun l hl => by rw [I.list_inj hl hqx]; exact hx, fun l hl => by rw [I.list_inj hl hqy]; exact hy⟩, ⟨z'', ?_, ⟨u, u2, ?_⟩, ?_, ?_⟩, fun c hcm => ?_⟩
    · exact (sb.2 _ D.TIz).trans (hk _ _ D.TIz D.TITO D.TIi1 D.TIi2 hTI)
    · exact (sb.2 _ D.TOz).trans TO'
    · exact h1'.at fun o q => (sb.2 _ D.i1z).trans q
    · exact h2'.at fun o q => (sb.2 _ D.i2z).trans q
    · have hlt : c < s.heap.objs.size := by
        have e' : c = z ∨ c = TI ∨ c = TO ∨ c = i1 ∨ c = i2 := by simpa using hcm
        rcases e' with q | q | q | q | q
        · rw [q]; exact hzl
        · rw [q]; exact Heap.lt_size hTI
        · rw [q]; exact Heap.lt_size hTO
        · rw [q]; obtain ⟨_, e1, _⟩ := h1; exact Heap.lt_size e1
        · rw [q]; obtain ⟨_, e2, _⟩ := h2; exact Heap.lt_size e2
      rw [upd_ne (Nat.ne_of_lt hlt)]
      exact (hf c hcm).1
  done := by
    intro X hP hw hK hc i pins s σ H E I hf st hg
    subst hP hw hK
    obtain ⟨hz, hTI, ⟨x0, y0, hTO⟩, h1, h2⟩ := st
    obtain ⟨xs, ys, hqx, hqy, hend⟩ := hg
    obtain ⟨its, rv, p, _⟩ := I.list hqx
    obtain ⟨its2, rv2, p2, _⟩ := I.list hqy
    have l1 := rv.length
    have l2 := rv2.length
    have he : its.toArray[i]? = none ∨ its2.toArray[i]? = none := by
      rcases hend with q | q
      · exact .inl (by simp; omega)
      · exact .inr (by simp; omega)
    exact wpAny_pyNext_zip_end (I.ok.hd hc) D hz hTI hTO h1 h2 p.isList p2.isList he fun h' hk => ⟨rfl, I.turnedL (t' := s.toks) (ch := [z, TI, TO, i1, i2]) (fun c o hb q =>
      hk c o (fun q' => hb (by simp [q'])) (fun q' => hb (by simp [q'])) (fun q' => hb (by simp [q'])) (fun q' => hb (by simp [q'])) q) hf⟩
  self := fun A i s Q E st h => wpAny_pyIter_zip st.1 h
noncomputable def iZip (K : PySem.W.Frag) (ta : TA) : TI := fun σ H R => ta σ H fun vs H1 => ∃ a b xs ys, vs = [.ref a, .ref b] ∧ SqL K H1 a xs ∧ SqL K H1 b ys ∧ R (Itz K a b) H1
theorem pi_zip {X : Cx} {e e2 : Expr} {ta : TA} {p pos tpos : Pos} {elts : List Expr} {kk : Nat} (hg : Gl X "zip") (hm : X.mg "zip" = none) (ha : PA X [e, e2] ta)
    (hs : starEach [e, e2] X.env = (false, eval e X.env) :: starEach [e2] X.env := by rfl) (hpl : (backTo pos (starEach [e2] X.env)).any (·.1) = false := by rfl) :
    PI X (.Tuple elts kk tpos) (.Call (.Name "zip" p) [e, e2] [] pos) (iZip X.K ta) := by
  intro pins s σ H R I h
  refine Call_ (ld_blt I hg hm boot_zip5 (PyProof.Rows.callWith_type1 (thn (ha pos pins s σ H _ I h) fun us s1 ⟨vs, H1, I1, r1, q1⟩ => ?_) hs hpl))
  obtain ⟨a, b, xs, ys, ex, hqx, hqy, q⟩ := q1
  subst ex
  cases r1 with
  | cons r rr =>
    cases rr with
    | cons r' rr =>
      cases rr
      cases r
      cases r'
      obtain ⟨its, rv, p1, _⟩ := I1.list hqx
      obtain ⟨its2, rv2, p2, _⟩ := I1.list hqy
      have la : a < s1.heap.objs.size := p1.lt
      have lb : b < s1.heap.objs.size := p2.lt
      refine call_zip_2 p1.isList p2.isList fun h' hz hTI hTO h1 h2 hsz hk => wpAny_pyIter_zip hz ?_
      have I2 : Inv X pins σ H1 { s1 with heap := h' } := I1.kept (t' := s1.toks) hk
      refine ⟨s1.heap.objs.size + 4, [s1.heap.objs.size + 4, s1.heap.objs.size + 2, s1.heap.objs.size + 3, s1.heap.objs.size, s1.heap.objs.size + 1], _, _, H1, rfl, I2, turn_zip (PySem.W.ktu_apart s1.heap.objs.size a b la lb), ⟨hz, hTI, ⟨_, _, hTO⟩, h1, h2⟩, fun c hcm => ?_, q⟩
      have e' : c = s1.heap.objs.size + 4 ∨ c = s1.heap.objs.size + 2 ∨ c = s1.heap.objs.size + 3 ∨ c = s1.heap.objs.size ∨ c = s1.heap.objs.size + 1 := by simpa using hcm
      have hle : s1.heap.objs.size ≤ c := by
        rcases e' with z | z | z | z | z
        · rw [z]; exact Nat.le_add_right _ _
        · rw [z]; exact Nat.le_add_right _ _
        · rw [z]; exact Nat.le_add_right _ _
        · rw [z]; exact Nat.le_refl _
        · rw [z]; exact Nat.le_add_right _ _
      exact I1.fpOk hle (I1.hok.fresh hle)
end L2

section 
namespace Bits
open PySem PyProof.Rows

end Bits
end 

section 
namespace TL
open PySem PySem.Builtin PySem.Builtin.Str PySem.StrLaws

noncomputable abbrev tl (x : Str) : List Nat := x.cps.toList
theorem tl_append (x y : Str) : tl (x ++ y) = tl x ++ tl y := by
  show (x ++ y).cps.toList = _
  rw [Str.cps_append, Array.toList_append]
noncomputable def joinL (S : List Nat) : List (List Nat) → List Nat
  | [] => []
  | [p] => p
  | p :: q :: r => p ++ (S ++ joinL S (q :: r))
theorem tl_join (y : Str) : ∀ parts : List Str, tl (Str.join y parts) = joinL (tl y) (parts.map tl)
  | [] => rfl
  | [_] => rfl
  | x :: z :: r => by
    show tl (x ++ y ++ Str.join y (z :: r)) = tl x ++ (tl y ++ joinL (tl y) ((z :: r).map tl))
    rw [tl_append, tl_append, tl_join y (z :: r), List.append_assoc]
theorem join_eq (y : Str) (parts : List Str) : Txt.join y parts = Str.join y parts := glued_eq_join y parts
end TL
end 

namespace L2
open PySem PySem.Spec PyProof.Rows

theorem strs_of_vals : ∀ {ys : List Str} {us : List Value}, Vals (ys.map V.str) us → StrsAre us ys
  | [], _, .nil => .nil
  | y :: ys, _, .cons r t => by
    obtain ⟨k, rfl⟩ := r
    exact .cons y k (strs_of_vals t)

section
variable {X : Cx} {pins : List (Addr × Obj)} {σ : St} {H : Hp} {s : Shared} {Q : VK}
end

section
variable {X : Cx}

theorem mt_join : MtR X "str.join" (fun x xs H Q => ∃ a p, ∃ ys : List Str, x = .str a ∧ xs = [.ref p] ∧ (SqL X.K H p (ys.map V.str) ∨ SqT X.K H p (ys.map V.str)) ∧
    (ys.map (·.length)).sum + ys.length * a.length ≤ 16777216 ∧ Q (.str (Txt.join a ys)) H) := by
  intro pins s σ H x xs v us Q I rx rs h
  obtain ⟨a, p, ys, rfl, rfl, hp, hz, h⟩ := h
  obtain ⟨t, rfl⟩ := rx
  cases rs with
  | cons r1 rs =>
    cases rs
    cases r1
    rcases hp with hp | hp
    · obtain ⟨its, r, ⟨o, n, ho, hc, _, hd⟩, _⟩ := I.list hp
      exact PyProof.Rows.join_list (items := its.toArray) ⟨o, ho, hc, n, hd⟩ (by rw [List.toList_toArray]; exact strs_of_vals r) hz fun t' k => ⟨.str _, H, I.tok k, ⟨t', rfl⟩, h⟩
    · obtain ⟨its, r, ht, _⟩ := I.tuple hp
      exact PyProof.Rows.join_tuple (items := its.toArray) ht (by rw [List.toList_toArray]; exact strs_of_vals r) hz fun t' k => ⟨.str _, H, I.tok k, ⟨t', rfl⟩, h⟩

end

section
variable {X : Cx} {o e : Expr} {to te : TE}
noncomputable def tM1 (r : V → List V → Hp → VK → Prop) (to te : TE) : TE := fun σ H Q => to σ H fun x H1 => (∃ a, x = .str a) ∧ te σ H1 fun y H2 => r x [y] H2 Q
theorem pe_m1 {id : String} {name : Str} {apos pos : Pos} {r : V → List V → Hp → VK → Prop} (slot : Slot "str" name id) (ty : typeOf (.builtin id) = pure (.type "method_descriptor")) (rule : MtR X id r) (ho : PE X o to) (he : PE X e te)
    (hs : starEach [e] X.env = [(false, eval e X.env)] := by rfl) (hbase : attributeBase o name X.env (eval o X.env) = eval o X.env := by rfl) (hline : (apos.endLine == pos.line) = true := by rfl) :
    PE X (.Call (.Attribute o name apos) [e] [] pos) (tM1 r to te) := by
  intro pins s σ H Q I h
  refine PySem.Call_method1 hbase hs hline (thn (ho pins s σ H _ I h) fun v s1 ⟨x, H1, I1, r1, q1⟩ => ?_)
  obtain ⟨⟨a, rfl⟩, q1⟩ := q1
  obtain ⟨t, rfl⟩ := _root_.id r1
  refine ⟨"str", _, F.plainAttrs_str, slot, ty, typeIs_str _ _ _, (fun _ e => nomatch e), Calls.callWith_builtin rfl (Calls.evalArgs_plain (Calls.spliced_cons ?_))⟩
  exact thn (he pins s1 σ H1 _ I1 q1) fun u s2 ⟨y, H2, I2, r2, q2⟩ => Calls.spliced_nil (rule pins s2 σ H2 _ [y] _ [u] Q I2 r1 (.cons r2 .nil) q2)

theorem pe_join {apos pos : Pos} (ho : PE X o to) (he : PE X e te) (hs : starEach [e] X.env = [(false, eval e X.env)] := by rfl) (hbase : attributeBase o "join" X.env (eval o X.env) = eval o X.env := by rfl) (hline : (apos.endLine == pos.line) = true := by rfl) :
    PE X (.Call (.Attribute o "join" apos) [e] [] pos) (tM1 (fun x xs H Q => ∃ a p, ∃ ys : List Str, x = .str a ∧ xs = [.ref p] ∧ (SqL X.K H p (ys.map V.str) ∨ SqT X.K H p (ys.map V.str)) ∧
      (ys.map (·.length)).sum + ys.length * a.length ≤ 16777216 ∧ Q (.str (Txt.join a ys)) H) to te) :=
  pe_m1 F.slot_str_join F.type_str_join mt_join ho he hs hbase hline
end
end L2

namespace L2
open PySem PySem.Spec PyProof.Rows

section
variable {X : Cx}
end

end L2

namespace Att
open PySem PySem.W PySem.Calls PyProof.Rows

section
variable {prog : Program} {w : World} {A : Around} {E : Value → Shared → Prop} {s : Shared} {K : Frag}

end
end Att

namespace L2
open PySem PySem.Spec PyProof.Rows

end L2

namespace L2
open PySem PySem.Spec PyProof.Rows

end L2

/- THE LAST THEOREM (shape; LID, My.* are yours):
   My.Adr: a structure of the addresses that your layer names (classes, functions); My.Txt K t: a structure (Prop) of the equations over K;
   My.txt_mk : {K} {implicit addresses ..} (e1 : nsIn K mainGlobals "law" = some (some (.ref f))) (e2 : K.lookup f = some ⟨oc, od, .func (fnOf "law" "law" params body scope dV kV doc pm an cdv ct), sl⟩) (e3 : codeIn K cdv "law" = true) .. : ∃ t, My.Txt K t

set_option maxRecDepth 100000 in
set_option maxHeartbeats 0 in
theorem PySem.Challenge.cw_LID_holds : PySem.Challenge.rw_LID.Holds := by
  w_on; o_law; k_head; (case hw => w_witness2)
  k_fill
  refine L2.walk_of (l := PySem.Challenge.rw_LID) (n := 63) (k := 40) (x := "script") (CX := fun w => ..) (sp := fun _ => My.sp_law) rfl (by decide) rfl ⟨rfl, by decide, by decide⟩ (fun w h Y => PySem.W.kIn_of Y) ?F ?S ?C
  case F =>
    intro w mg fa h KX G hmg
    have T : ∃ t, My.Txt (L2.KOf KX) t := by
      dsimp only [L2.KOf]                          -- K must stand as «<heap const> w.params» for k_is
      refine' My.txt_mk ?e1 ?e2 ?e3 ..
      (case e1 => PySem.W.k_is)                    -- in the order: a name -> its address -> its object -> its parts
      (case e2 => PySem.W.k_is)
      ..
    obtain ⟨t, T⟩ := T
    have e0 := hmg.symm.trans (PySem.W.mg_of KX G T.law)
    cases e0                                       -- fa is the law's own address
    exact ⟨_, fun s u => .of_eq rfl, fun base kb nb => My.law_fn T kb nb⟩     -- if «.of_eq rfl» comes too early: refine' ⟨_, ?b, fun base kb nb => My.law_fn T kb nb⟩; exact fun s u => .of_eq rfl
  case S => exact fun w H a ns hl hO hS => ..
  case C => exact ..
(the tactic k_is has no namespace: write k_is) -/

namespace L2
open PySem PySem.Spec PyProof.Rows

noncomputable def inClass (s : Stmt) (j : Nat) : Stmt := match s with
  | .ClassDef _ _ _ body _ _ _ _ _ _ _ => body.getD j (.Pass ⟨0, 0, 0, 0⟩)
  | _ => .Pass ⟨0, 0, 0, 0⟩
noncomputable def defArgs (s : Stmt) : Arguments := match s with
  | .FunctionDef _ a _ _ _ _ _ _ _ _ => a
  | _ => { posonlyargs := [], args := [], vararg := none, kwonlyargs := [], kw_defaults := [], kwarg := none, defaults := [] }
noncomputable def defBody (s : Stmt) : List Stmt := match s with
  | .FunctionDef _ _ b _ _ _ _ _ _ _ => b
  | _ => []
noncomputable def defScope (s : Stmt) : Scope := match s with
  | .FunctionDef _ _ _ _ _ _ sc _ _ _ => sc
  | _ => { kind := .function, names := [], isGenerator := false, isCoroutine := false }

structure Fun (K : PySem.W.Frag) (x qual : Str) (st : Stmt) (f : Addr) (fd : FuncData) : Prop where
  ex : ∃ (oc : Value) (od : Option Addr) (kV doc pm : Value) (an : Option Addr) (cdv ct : Value) (osl : Array (Option Value)),
    fd = PySem.W.fnOf x qual (defArgs st) (defBody st) (defScope st) .none kV doc pm an cdv ct ∧ K.lookup f = some ⟨oc, od, .func fd, osl⟩ ∧ PySem.W.codeIn K cdv qual = true
  kp : PySem.W.keepIn K (.ref f) = true
section
variable {P : Program} {w : World} {K : PySem.W.Frag} {mg : Str → Option Value} {base : Heap}
theorem Fun.binds {x qual : Str} {st : Stmt} {f : Addr} {fd : FuncData} {ps : List Str} (F : Fun K x qual st f fd)
    (h : ∀ (kV doc pm : Value) (an : Option Addr) (cdv ct : Value) (us : List Value), us.length = ps.length → bindArgs (PySem.W.fnOf x qual (defArgs st) (defBody st) (defScope st) .none kV doc pm an cdv ct) ⟨us, []⟩ = pure (ps.zip us)) : Binds K fd ps [] := by
  obtain ⟨oc, od, kV, doc, pm, an, cdv, ct, osl, rfl, lk, hcd⟩ := F.ex
  exact .all (h kV doc pm an cdv ct)
theorem fun_mk {x qual : Str} {st : Stmt} {f : Addr} {oc : Value} {od an : Option Addr} {osl : Array (Option Value)} {kV doc pm cdv ct : Value} (l : K.lookup f = some ⟨oc, od, .func (PySem.W.fnOf x qual (defArgs st) (defBody st) (defScope st) .none kV doc pm an cdv ct), osl⟩)
    (c : PySem.W.codeIn K cdv qual = true) (k : PySem.W.keepIn K (.ref f) = true) : Fun K x qual st f (PySem.W.fnOf x qual (defArgs st) (defBody st) (defScope st) .none kV doc pm an cdv ct) := ⟨⟨oc, od, kV, doc, pm, an, cdv, ct, osl, rfl, l, c⟩, k⟩
end
section
variable {X : Cx}
theorem pv (i : Nat) {x : Str} {pos : Pos} (hN : X.N[i]? = some x := by rfl) (hv : Vis X.env.scope x := by first | exact Or.inl rfl | exact Or.inr (Or.inl rfl) | exact Or.inr (Or.inr rfl)) (hd : (x == ("__debug__" : Str)) = false := by decide)
    (hcd : (x == ("__classdict__" : Str)) = false := by decide) : PE X (.Name x pos) (tVar i) := pe_var hN hv hd hcd
end

theorem iteF {A B : Prop} (h : B) : if false = true then A else B := by
  rw [if_neg Bool.false_ne_true]
  exact h
theorem iteT {A B : Prop} (h : A) : if true = true then A else B := by
  rw [if_pos rfl]
  exact h
theorem ite2 {c A B : Prop} [Decidable c] (h1 : c → A) (h2 : ¬ c → B) : if c then A else B := by
  by_cases h : c
  · rw [if_pos h]
    exact h1 h
  · rw [if_neg h]
    exact h2 h
noncomputable def Same (H H' : Hp) : Prop := ∀ b o, H b = some o → H' b = some o
theorem Same.refl (H : Hp) : Same H H := fun _ _ h => h
theorem Same.trans {H H1 H2 : Hp} (a : Same H H1) (b : Same H1 H2) : Same H H2 := fun c o h => b c o (a c o h)
theorem Same.free {H H' : Hp} (e : Same H H') {l : Addr} (h : H' l = Option.none) : H l = Option.none := by
  cases q : H l with
  | none => rfl
  | some o =>
    rw [e l o q] at h
    cases h
theorem Same.seq {K : PySem.W.Frag} {H H' : Hp} {a : Addr} {xs : List V} (e : Same H H') (h : SqL K H a xs) : SqL K H' a xs := by
  rcases h with (h | ⟨o, h⟩) | h
  · exact .inl (.inl (e _ _ h))
  · exact .inl (.inr ⟨o, e _ _ h⟩)
  · exact .inr h

section
variable {κ : Type} [DecidableEq κ]
end
end L2

section
set_option Elab.async false
set_option linter.all false
set_option maxRecDepth 100000
set_option maxHeartbeats 2000000
namespace L2
open PySem PySem.Spec PyProof.Rows
open PySem.W (WData Codec OpenSpec Well WellAll ReadsW ReadsAllW)
mutual
inductive Dw (K : PySem.W.Frag) (H : Hp) : V → WData → Prop
  | non : Dw K H .non .none
  | bl (b : Bool) : Dw K H (.bl b) (.bool b)
  | int (i : Int) : Dw K H (.int i) (.int i)
  | str (x : Str) : Dw K H (.str x) (.str x)
  | byt (b : Array UInt8) : Dw K H (.byt b) (.bytes b.toList)
  | lst {a : Addr} {xs : List V} {ds : List WData} : SqL K H a xs → DwAll K H xs ds → Dw K H (.ref a) (.list ds)
  | tup {a : Addr} {xs : List V} {ds : List WData} : SqT K H a xs → DwAll K H xs ds → Dw K H (.ref a) (.tuple ds)
inductive DwAll (K : PySem.W.Frag) (H : Hp) : List V → List WData → Prop
  | nil : DwAll K H [] []
  | cons {v : V} {vs : List V} {d : WData} {ds : List WData} : Dw K H v d → DwAll K H vs ds → DwAll K H (v :: vs) (d :: ds)
end
theorem dw_ints {K : PySem.W.Frag} {H : Hp} : ∀ ns : List Int, DwAll K H (ns.map V.int) (ns.map WData.int)
  | [] => .nil
  | n :: r => .cons (.int n) (dw_ints r)
theorem ints_dw {K : PySem.W.Frag} {H : Hp} : ∀ (ns : List Int) (xs : List V), DwAll K H xs (ns.map WData.int) → xs = ns.map V.int
  | [], xs, h => by
    cases h
    rfl
  | n :: r, xs, h => by
    cases h with
    | cons h1 h2 =>
      cases h1
      rw [ints_dw r _ h2] <;> rfl
section
variable {P : Program} {w : World} {K : PySem.W.Frag} {H : Hp} {h : Heap} {R : PySem.W.WRecords} {cl : Str → Option Addr}
theorem sqL_at {a : Addr} {xs : List V} (hok : HOk P w H h) (KX : K.In h) (q : SqL K H a xs) : ∃ (its : List Value) (o : Obj) (n : Nat), Vals xs its ∧ h.get? a = some o ∧ o.cls = .type "list" ∧ o.data = .seq its.toArray n := by
  rcases q with q | ⟨o, its, n, e, hc, _, hd, _, hv⟩
  · obtain ⟨_, its, n, hv, e⟩ := (show ObjOk P w H h a (.lst xs) from q.ok hok)
    exact ⟨its, _, n, hv, e, rfl, rfl⟩
  · exact ⟨its.toList, o, n, hv, KX _ _ e, hc, by simp [hd]⟩
theorem sqT_at {a : Addr} {xs : List V} (hok : HOk P w H h) (KX : K.In h) (q : SqT K H a xs) : ∃ (its : List Value) (o : Obj) (n : Nat), Vals xs its ∧ h.get? a = some o ∧ o.cls = .type "tuple" ∧ o.data = .seq its.toArray n := by
  rcases q with q | ⟨o, its, n, e, hc, hd, _, hv⟩
  · obtain ⟨_, its, hv, o, e, hc, n, hd⟩ := (show ObjOk P w H h a (.tup xs) from q.ok hok)
    exact ⟨its, o, n, hv, e, hc, hd⟩
  · exact ⟨its.toList, o, n, hv, KX _ _ e, hc, by simp [hd]⟩
mutual
theorem Dw.reads (hok : HOk P w H h) (KX : K.In h) : ∀ (d : WData) (v : V) (u : Value), Dw K H v d → RelV v u → ∃ as, ReadsW R cl h u d as
  | .none, _, _, x, r => by
    cases x
    cases r
    exact ⟨_, ReadsW.none⟩
  | .bool b, _, _, x, r => by
    cases x
    cases r
    exact ⟨_, ReadsW.bool b⟩
  | .int i, _, _, x, r => by
    cases x
    obtain ⟨t, rfl⟩ := r
    exact ⟨_, ReadsW.int i t⟩
  | .str s, _, _, x, r => by
    cases x
    obtain ⟨t, rfl⟩ := r
    exact ⟨_, ReadsW.str s t⟩
  | .bytes b, _, _, x, r => by
    cases x
    obtain ⟨t, rfl⟩ := r
    exact ⟨_, ReadsW.bytes _ t⟩
  | .list ds, _, _, x, r => by
    cases x with
    | lst hs ha =>
      cases r
      obtain ⟨its, o, n, rv, ho, hc, hd⟩ := sqL_at hok KX hs
      obtain ⟨as, hr⟩ := Dw.readsAll hok KX ds _ its ha rv
      exact ⟨_, ReadsW.list ho hc hd hr⟩
  | .tuple ds, _, _, x, r => by
    cases x with
    | tup hs ha =>
      cases r
      obtain ⟨its, o, n, rv, ho, hc, hd⟩ := sqT_at hok KX hs
      obtain ⟨as, hr⟩ := Dw.readsAll hok KX ds _ its ha rv
      exact ⟨_, ReadsW.tuple ho hc hd hr⟩
  | .float _, _, _, x, _ => by cases x
  | .dict _, _, _, x, _ => by cases x
  | .bytearray _, _, _, x, _ => by cases x
  | .set _, _, _, x, _ => by cases x
  | .frozenset _, _, _, x, _ => by cases x
  | .obj _ _, _, _, x, _ => by cases x
theorem Dw.readsAll (hok : HOk P w H h) (KX : K.In h) : ∀ (ds : List WData) (vs : List V) (us : List Value), DwAll K H vs ds → Vals vs us → ∃ as, ReadsAllW R cl h us ds as
  | [], _, _, x, r => by
    cases x
    cases r
    exact ⟨_, ReadsAllW.nil⟩
  | d :: ds, _, _, x, r => by
    cases x with
    | cons h1 h2 =>
      cases r with
      | cons r1 r2 =>
        obtain ⟨as, q1⟩ := Dw.reads hok KX d _ _ h1 r1
        obtain ⟨bs, q2⟩ := Dw.readsAll hok KX ds _ _ h2 r2
        exact ⟨_, ReadsAllW.cons q1 q2⟩
end
end
mutual
noncomputable def plW : WData → Bool
  | .none => true
  | .bool _ => true
  | .int _ => true
  | .str _ => true
  | .bytes _ => true
  | .list xs => plWs xs
  | .tuple xs => plWs xs
  | _ => false
noncomputable def plWs : List WData → Bool
  | [] => true
  | x :: r => plW x && plWs r
end
theorem plWs_map {α : Type} {f : α → WData} (h : ∀ a, plW (f a) = true) : ∀ l : List α, plWs (l.map f) = true
  | [] => rfl
  | x :: r => by
    show (plW (f x) && plWs (r.map f)) = true
    rw [h x, plWs_map h r] <;> rfl
theorem pl_enc : ∀ (c : Codec) (a : c.denote), plW (c.enc a) = true
  | .unit, _ => rfl
  | .bool, _ => rfl
  | .int _ _, _ => rfl
  | .nat _ _, _ => rfl
  | .u8, _ => rfl
  | .bytes _ _, _ => rfl
  | .text _ _ _ _, _ => rfl
  | .list _ _ c, a => plWs_map (fun x => pl_enc c x) a
  | .pair c d, a => by
    show (plW (c.enc a.1) && (plW (d.enc a.2) && true)) = true
    rw [pl_enc c a.1, pl_enc d a.2] <;> rfl
  | .triple c d e, a => by
    show (plW (c.enc a.1) && (plW (d.enc a.2.1) && (plW (e.enc a.2.2) && true))) = true
    rw [pl_enc c a.1, pl_enc d a.2.1, pl_enc e a.2.2] <;> rfl
  | .option c, none => rfl
  | .option c, some x => pl_enc c x
theorem pl_encAll : ∀ (cs : List Codec) (a : Codec.denoteAll cs), plWs (Codec.encAll cs a) = true
  | [], _ => rfl
  | c :: cs, a => by
    show (plW (c.enc a.1) && plWs (Codec.encAll cs a.2)) = true
    rw [pl_enc c a.1, pl_encAll cs a.2] <;> rfl
theorem weight_mem : ∀ {xs : List WData} {d : WData}, d ∈ xs → d.weight ≤ WData.weightAll xs
  | [], d, h => absurd h (by simp)
  | x :: r, d, h => by
    show d.weight ≤ x.weight + 1 + WData.weightAll r
    rcases List.mem_cons.mp h with e | m
    · rw [e]
      omega
    · have z := weight_mem m
      omega
noncomputable def toV : Value → V
  | .none => .non
  | .bool b => .bl b
  | .int i _ => .int i
  | .str x _ => .str x
  | .bytes b _ => .byt b
  | .ref a => .ref a
  | _ => .non
noncomputable def OkU (A : List Addr) : Value → Prop
  | .none => True
  | .bool _ => True
  | .int _ _ => True
  | .str _ _ => True
  | .bytes _ _ => True
  | .ref a => a ∈ A
  | _ => False
theorem OkU.mono {A B : List Addr} (h : ∀ a ∈ A, a ∈ B) : ∀ {u : Value}, OkU A u → OkU B u := fun {u} x => by
  cases u with
  | ref a => exact h a x
  | none => trivial
  | bool b => trivial
  | int i t => trivial
  | str s t => trivial
  | bytes b t => trivial
  | _ => exact False.elim x
theorem relV_toV {A : List Addr} {u : Value} (x : OkU A u) : RelV (toV u) u := by
  cases u with
  | ref a => rfl
  | none => rfl
  | bool b => rfl
  | int i t => exact ⟨t, rfl⟩
  | str s t => exact ⟨t, rfl⟩
  | bytes b t => exact ⟨t, rfl⟩
  | _ => exact False.elim x
theorem vals_toV {A : List Addr} : ∀ {vs : List Value}, (∀ u ∈ vs, OkU A u) → Vals (vs.map toV) vs
  | [], _ => .nil
  | u :: r, h => .cons (relV_toV (h u (List.mem_cons_self ..))) (vals_toV fun x hx => h x (List.mem_cons_of_mem _ hx))
noncomputable def ArgOb (h : Heap) (A : List Addr) (a : Addr) : Prop := ∃ vs : List Value, vs.length ≤ sizeLine ∧ (∀ u ∈ vs, OkU A u) ∧
  (h.get? a = some { cls := .type "list", data := .seq vs.toArray } ∨ h.get? a = some { cls := .type "tuple", data := .seq vs.toArray })
theorem ArgOb.mono {h : Heap} {A B : List Addr} {a : Addr} (k : ∀ a ∈ A, a ∈ B) (x : ArgOb h A a) : ArgOb h B a := by
  obtain ⟨vs, h1, h2, h3⟩ := x
  exact ⟨vs, h1, fun u hu => (h2 u hu).mono k, h3⟩
theorem wellAll_len {P : Params} {h : Heap} : ∀ {vs : List Value} {ds : List WData}, WellAll P h vs ds → vs.length = ds.length
  | _, _, .nil => rfl
  | _, _, .cons _ b => by
    show _ + 1 = _ + 1
    rw [wellAll_len b]
theorem well_list {P : Params} {h : Heap} {v : Value} {ds : List WData} (x : Well P h v (.list ds)) : ∃ (a : Addr) (vs : List Value), v = .ref a ∧ h.get? a = some { cls := .type "list", data := .seq vs.toArray } ∧ WellAll P h vs ds := by
  cases x with
  | list ho hall => exact ⟨_, _, rfl, ho, hall⟩
theorem well_tuple {P : Params} {h : Heap} {v : Value} {ds : List WData} (x : Well P h v (.tuple ds)) : ∃ (a : Addr) (vs : List Value), v = .ref a ∧ h.get? a = some { cls := .type "tuple", data := .seq vs.toArray } ∧ WellAll P h vs ds := by
  cases x with
  | tuple ho hall => exact ⟨_, _, rfl, ho, hall⟩
theorem well_cons {P : Params} {h : Heap} {us : List Value} {d : WData} {ds : List WData} (x : WellAll P h us (d :: ds)) : ∃ (v : Value) (vs : List Value), us = v :: vs ∧ Well P h v d ∧ WellAll P h vs ds := by
  cases x with
  | cons a b => exact ⟨_, _, rfl, a, b⟩
theorem line_of {n : Nat} (h : n ≤ 1048576) : n ≤ sizeLine := Nat.le_trans h (by decide)
section
variable {P : Params} {h : Heap}
mutual
theorem area_one : ∀ (d : WData) (v : Value), Well P h v d → plW d = true → d.weight ≤ 1048576 → ∃ A : List Addr, OkU A v ∧ ∀ a ∈ A, ArgOb h A a
  | .none, _, x, _, _ => by
    cases x
    exact ⟨[], trivial, fun a m => absurd m (by simp)⟩
  | .bool b, _, x, _, _ => by
    cases x
    exact ⟨[], trivial, fun a m => absurd m (by simp)⟩
  | .int i, _, x, _, _ => by
    cases x
    exact ⟨[], trivial, fun a m => absurd m (by simp)⟩
  | .str s, _, x, _, _ => by
    cases x
    exact ⟨[], trivial, fun a m => absurd m (by simp)⟩
  | .bytes b, _, x, _, _ => by
    cases x
    exact ⟨[], trivial, fun a m => absurd m (by simp)⟩
  | .list ds, _, x, p, z => by
    obtain ⟨a, vs, rfl, ho, hall⟩ := well_list x
    have z2 : WData.weightAll ds ≤ 1048576 := z
    obtain ⟨A, h1, h2⟩ := area_all ds _ hall p fun d hd => Nat.le_trans (weight_mem hd) z2
    have k : ∀ b ∈ A, b ∈ a :: A := fun b hb => List.mem_cons_of_mem _ hb
    refine ⟨a :: A, List.mem_cons_self .., fun b hb => ?_⟩
    rcases List.mem_cons.mp hb with e | m
    · rw [e]
      exact ⟨vs, line_of (by rw [wellAll_len hall]; exact Nat.le_trans (PySem.W.length_le_weightAllW ds) z2), fun u hu => (h1 u hu).mono k, .inl ho⟩
    · exact (h2 b m).mono k
  | .tuple ds, _, x, p, z => by
    obtain ⟨a, vs, rfl, ho, hall⟩ := well_tuple x
    have z2 : WData.weightAll ds ≤ 1048576 := z
    obtain ⟨A, h1, h2⟩ := area_all ds _ hall p fun d hd => Nat.le_trans (weight_mem hd) z2
    have k : ∀ b ∈ A, b ∈ a :: A := fun b hb => List.mem_cons_of_mem _ hb
    refine ⟨a :: A, List.mem_cons_self .., fun b hb => ?_⟩
    rcases List.mem_cons.mp hb with e | m
    · rw [e]
      exact ⟨vs, line_of (by rw [wellAll_len hall]; exact Nat.le_trans (PySem.W.length_le_weightAllW ds) z2), fun u hu => (h1 u hu).mono k, .inr ho⟩
    · exact (h2 b m).mono k
  | .float _, _, _, p, _ => Bool.noConfusion (show false = true from p)
  | .dict _, _, _, p, _ => Bool.noConfusion (show false = true from p)
  | .bytearray _, _, _, p, _ => Bool.noConfusion (show false = true from p)
  | .set _, _, _, p, _ => Bool.noConfusion (show false = true from p)
  | .frozenset _, _, _, p, _ => Bool.noConfusion (show false = true from p)
  | .obj _ _, _, _, p, _ => Bool.noConfusion (show false = true from p)
theorem area_all : ∀ (ds : List WData) (vs : List Value), WellAll P h vs ds → plWs ds = true → (∀ d ∈ ds, d.weight ≤ 1048576) → ∃ A : List Addr, (∀ u ∈ vs, OkU A u) ∧ ∀ a ∈ A, ArgOb h A a
  | [], _, x, _, _ => by
    cases x
    exact ⟨[], fun u m => absurd m (by simp), fun a m => absurd m (by simp)⟩
  | d :: ds, _, x, p, z => by
    obtain ⟨v, vs, rfl, x1, x2⟩ := well_cons x
    have q : plW d = true ∧ plWs ds = true := Bool.and_eq_true_iff.mp p
    obtain ⟨A, a1, a2⟩ := area_one d v x1 q.1 (z d (List.mem_cons_self ..))
    obtain ⟨B, b1, b2⟩ := area_all ds vs x2 q.2 fun e he => z e (List.mem_cons_of_mem _ he)
    have kA : ∀ b ∈ A, b ∈ A ++ B := fun b hb => List.mem_append.mpr (.inl hb)
    have kB : ∀ b ∈ B, b ∈ A ++ B := fun b hb => List.mem_append.mpr (.inr hb)
    refine ⟨A ++ B, fun u hu => ?_, fun b hb => ?_⟩
    · rcases List.mem_cons.mp hu with e | m
      · rw [e]
        exact a1.mono kA
      · exact (b1 u m).mono kB
    · rcases List.mem_append.mp hb with m | m
      · exact (a2 b m).mono kA
      · exact (b2 b m).mono kB
end
end
noncomputable def hoOf (o : Obj) : Option HO := match o.data with
  | .seq vs _ => if (o.cls == Value.type "list") = true then some (.frz o (.lst (vs.toList.map toV))) else some (.frz o (.tup (vs.toList.map toV)))
  | _ => none
noncomputable def argH (K : PySem.W.Frag) (h : Heap) (A : List Addr) : Hp := fun b => if b ∈ A then (if (K.lookup b).isNone = true then (h.get? b).bind hoOf else none) else none
noncomputable def OnlyF (H : Hp) : Prop := ∀ b, H b = none ∨ ∃ o u, H b = some (.frz o u)
theorem hoOf_lst (vs : List Value) : hoOf { cls := .type "list", data := .seq vs.toArray } = some (.frz { cls := .type "list", data := .seq vs.toArray } (.lst (vs.map toV))) := by
  show (if (Value.type "list" == Value.type "list") = true then some (HO.frz { cls := .type "list", data := .seq vs.toArray } (.lst (vs.toArray.toList.map toV))) else some (HO.frz { cls := .type "list", data := .seq vs.toArray } (.tup (vs.toArray.toList.map toV)))) = _
  rw [if_pos (beq_self_eq_true _)]
theorem hoOf_tup (vs : List Value) : hoOf { cls := .type "tuple", data := .seq vs.toArray } = some (.frz { cls := .type "tuple", data := .seq vs.toArray } (.tup (vs.map toV))) := by
  show (if (Value.type "tuple" == Value.type "list") = true then some (HO.frz { cls := .type "tuple", data := .seq vs.toArray } (.lst (vs.toArray.toList.map toV))) else some (HO.frz { cls := .type "tuple", data := .seq vs.toArray } (.tup (vs.toArray.toList.map toV)))) = _
  rw [if_neg (by decide)]
section
variable {P : Program} {w : World} {K : PySem.W.Frag} {h : Heap} {A : List Addr}
theorem argH_at {b : Addr} {o : Obj} (hb : b ∈ A) (hk : K.lookup b = none) (e : h.get? b = some o) : argH K h A b = hoOf o := by
  unfold argH
  rw [if_pos hb, hk, if_pos (show (none : Option Obj).isNone = true from rfl), e] <;> rfl
theorem of_argH {b : Addr} {u : HO} (q : argH K h A b = some u) : b ∈ A ∧ K.lookup b = none := by
  unfold argH at q
  by_cases hb : b ∈ A
  · rw [if_pos hb] at q
    cases hk : K.lookup b with
    | none => exact ⟨hb, rfl⟩
    | some o =>
      rw [hk, if_neg (by simp)] at q
      cases q
  · rw [if_neg hb] at q
    cases q
theorem argH_is (ar : ∀ a ∈ A, ArgOb h A a) {b : Addr} {u : HO} (q : argH K h A b = some u) : K.lookup b = none ∧ ∃ vs : List Value, vs.length ≤ sizeLine ∧ (∀ u ∈ vs, OkU A u) ∧
    ((h.get? b = some { cls := .type "list", data := .seq vs.toArray } ∧ u = .frz { cls := .type "list", data := .seq vs.toArray } (.lst (vs.map toV))) ∨
     (h.get? b = some { cls := .type "tuple", data := .seq vs.toArray } ∧ u = .frz { cls := .type "tuple", data := .seq vs.toArray } (.tup (vs.map toV)))) := by
  obtain ⟨hb, hk⟩ := of_argH q
  obtain ⟨vs, h1, h2, h3⟩ := ar b hb
  refine ⟨hk, vs, h1, h2, ?_⟩
  rcases h3 with e | e
  · rw [argH_at hb hk e, hoOf_lst] at q
    exact .inl ⟨e, (Option.some.inj q).symm⟩
  · rw [argH_at hb hk e, hoOf_tup] at q
    exact .inr ⟨e, (Option.some.inj q).symm⟩
theorem argH_only (ar : ∀ a ∈ A, ArgOb h A a) : OnlyF (argH K h A) := fun b => by
  cases q : argH K h A b with
  | none => exact .inl rfl
  | some u =>
    obtain ⟨_, vs, _, _, ⟨_, e⟩ | ⟨_, e⟩⟩ := argH_is ar q
    · exact .inr ⟨_, _, by rw [e]⟩
    · exact .inr ⟨_, _, by rw [e]⟩
theorem argH_ok (ar : ∀ a ∈ A, ArgOb h A a) : HOk P w (argH K h A) h := fun b u q => by
  obtain ⟨_, vs, h1, h2, ⟨e, rfl⟩ | ⟨e, rfl⟩⟩ := argH_is ar q
  · exact ⟨e, by rw [List.length_map]; exact h1, vs, _, vals_toV h2, e⟩
  · exact ⟨e, by rw [List.length_map]; exact h1, vs, vals_toV h2, _, e, rfl, _, rfl⟩
theorem seq_inj {c c' : Value} {vs us : List Value} (e : (some { cls := c, data := .seq vs.toArray } : Option Obj) = some { cls := c', data := .seq us.toArray }) : c = c' ∧ vs = us := by
  have e1 := Option.some.inj e
  have e2 : c = c' := congrArg Obj.cls e1
  have e3 : Data.seq vs.toArray = Data.seq us.toArray := congrArg Obj.data e1
  injection e3 with e4
  refine ⟨e2, ?_⟩
  have e5 := congrArg Array.toList e4
  simpa using e5
theorem argL (KX : K.In h) (ar : ∀ a ∈ A, ArgOb h A a) {a : Addr} {vs : List Value} (ha : a ∈ A) (e : h.get? a = some { cls := .type "list", data := .seq vs.toArray }) : (∀ u ∈ vs, OkU A u) ∧ SqL K (argH K h A) a (vs.map toV) := by
  obtain ⟨us, h1, h2, h3⟩ := ar a ha
  have hu : us = vs := by
    rcases h3 with q | q
    · rw [e] at q
      exact (seq_inj q).2.symm
    · rw [e] at q
      exact absurd (Value.type.inj (seq_inj q).1) (by decide)
  subst hu
  refine ⟨h2, ?_⟩
  cases hk : K.lookup a with
  | none => exact .inl (.inr ⟨_, by rw [argH_at ha hk e, hoOf_lst]⟩)
  | some o =>
    have e2 := KX a o hk
    rw [e] at e2
    obtain rfl := Option.some.inj e2
    exact .inr ⟨_, us.toArray, _, hk, rfl, rfl, rfl, by rw [List.size_toArray]; exact h1, by simpa using vals_toV h2⟩
theorem argT (KX : K.In h) (ar : ∀ a ∈ A, ArgOb h A a) {a : Addr} {vs : List Value} (ha : a ∈ A) (e : h.get? a = some { cls := .type "tuple", data := .seq vs.toArray }) : (∀ u ∈ vs, OkU A u) ∧ SqT K (argH K h A) a (vs.map toV) := by
  obtain ⟨us, h1, h2, h3⟩ := ar a ha
  have hu : us = vs := by
    rcases h3 with q | q
    · rw [e] at q
      exact absurd (Value.type.inj (seq_inj q).1) (by decide)
    · rw [e] at q
      exact (seq_inj q).2.symm
  subst hu
  refine ⟨h2, ?_⟩
  cases hk : K.lookup a with
  | none => exact .inl (.inr ⟨_, by rw [argH_at ha hk e, hoOf_tup]⟩)
  | some o =>
    have e2 := KX a o hk
    rw [e] at e2
    obtain rfl := Option.some.inj e2
    exact .inr ⟨_, us.toArray, _, hk, rfl, rfl, by rw [List.size_toArray]; exact h1, by simpa using vals_toV h2⟩
mutual
theorem dw_one {Pm : Params} (KX : K.In h) (ar : ∀ a ∈ A, ArgOb h A a) : ∀ (d : WData) (v : Value), Well Pm h v d → plW d = true → OkU A v → Dw K (argH K h A) (toV v) d
  | .none, _, x, _, _ => by
    cases x
    exact .non
  | .bool b, _, x, _, _ => by
    cases x
    exact .bl b
  | .int i, _, x, _, _ => by
    cases x
    exact .int i
  | .str s, _, x, _, _ => by
    cases x
    exact .str s
  | .bytes b, _, x, _, _ => by
    cases x
    have z := Dw.byt (K := K) (H := argH K h A) b.toArray
    exact z
  | .list ds, _, x, p, hu => by
    obtain ⟨a, vs, rfl, ho, hall⟩ := well_list x
    obtain ⟨h2, hs⟩ := argL KX ar hu ho
    exact .lst hs (dw_all KX ar ds _ hall p h2)
  | .tuple ds, _, x, p, hu => by
    obtain ⟨a, vs, rfl, ho, hall⟩ := well_tuple x
    obtain ⟨h2, hs⟩ := argT KX ar hu ho
    exact .tup hs (dw_all KX ar ds _ hall p h2)
  | .float _, _, _, p, _ => Bool.noConfusion (show false = true from p)
  | .dict _, _, _, p, _ => Bool.noConfusion (show false = true from p)
  | .bytearray _, _, _, p, _ => Bool.noConfusion (show false = true from p)
  | .set _, _, _, p, _ => Bool.noConfusion (show false = true from p)
  | .frozenset _, _, _, p, _ => Bool.noConfusion (show false = true from p)
  | .obj _ _, _, _, p, _ => Bool.noConfusion (show false = true from p)
theorem dw_all {Pm : Params} (KX : K.In h) (ar : ∀ a ∈ A, ArgOb h A a) : ∀ (ds : List WData) (vs : List Value), WellAll Pm h vs ds → plWs ds = true → (∀ u ∈ vs, OkU A u) → DwAll K (argH K h A) (vs.map toV) ds
  | [], _, x, _, _ => by
    cases x
    exact .nil
  | d :: ds, _, x, p, hu => by
    obtain ⟨v, vs, rfl, x1, x2⟩ := well_cons x
    have q : plW d = true ∧ plWs ds = true := Bool.and_eq_true_iff.mp p
    exact .cons (dw_one KX ar d v x1 q.1 (hu _ (List.mem_cons_self ..))) (dw_all KX ar ds vs x2 q.2 fun u m => hu u (List.mem_cons_of_mem _ m))
end
end
theorem spec_call {P : Program} {w : World} {K : PySem.W.Frag} {mg mb : Str → Option Value} {CX : CXT} {k : Nat} {fa : Addr} {fd : FuncData} {ps : List Str} {sp : Sp} {s₁ : Shared} {vals : List Value} {ds : List WData} {R : PySem.W.WRecords} {cl : Str → Option Addr} {d0 : WData}
    (KX : K.In s₁.heap) (hns : s₁.heap.Ns mainGlobals mg) (hb : s₁.heap.Ns builtinsNs mb) (hbb : ∀ x : Str, x ≠ "__name__" → mb x = bootBuiltins x) (hlim : s₁.heap.NoLimit) (hg : s₁.gens = #[])
    (hwl : WellAll w.params s₁.heap vals ds) (hpl : plWs ds = true) (hwt : ∀ d ∈ ds, d.weight ≤ 1048576) (hr : Room k callerA)
    (F : ∀ base : Heap, K.In base → base.Ns mainGlobals mg → FnOk P w K mg base CX k fa fd ps sp) (hbind : ∀ (s : Shared) (us : List Value), us.length = ps.length → BindsTo s fd ⟨us, []⟩ (ps.zip us)) (hlen : ds.length = ps.length)
    (hsp : ∀ (H : Hp) (xs : List V), OnlyF H → DwAll K H xs ds → sp xs H (fun v H' => Dw K H' v d0) fun _ _ _ => False)
    (hCX : ∀ H e s', CX [] H s₁ (fun _ _ _ => False) e s' → False) :
    codeAny (model P w) callerA (.call (.ref fa) ⟨vals, []⟩) (fun r s' => ∃ u as, r = .ok (.ret u) ∧ ReadsW R cl s'.heap u d0 as ∧ OldK s₁.heap s'.heap ∧ s'.os = s₁.os ∧ AllBare s'.gens) s₁ := by
  obtain ⟨A, ho, ar⟩ := area_all ds vals hwl hpl hwt
  have hO : OnlyF (argH K s₁.heap A) := argH_only ar
  have hok : HOk P w (argH K s₁.heap A) s₁.heap := argH_ok ar
  have hS := dw_all KX ar ds vals hwl hpl ho
  have hV := vals_toV ho
  have hK : ∀ b u, argH K s₁.heap A b = some u → K.lookup b = none := fun b u q => (argH_is ar q).1
  have noA : ∀ {b : Addr} {o : Obj} {es : Array DictEntry} {ep : Nat}, s₁.heap.get? b = some o → o.data = .dict es ep → argH K s₁.heap A b = none := fun {b o es ep} e d => by
    cases q : argH K s₁.heap A b with
    | none => rfl
    | some u =>
      obtain ⟨_, vs, _, _, ⟨e2, _⟩ | ⟨e2, _⟩⟩ := argH_is ar q
      · rw [e2] at e
        cases e
        have d' : Data.seq vs.toArray _ = Data.dict es ep := d
        cases d'
      · rw [e2] at e
        cases e
        have d' : Data.seq vs.toArray _ = Data.dict es ep := d
        cases d'
  generalize argH K s₁.heap A = H at hO hok hS hK noA
  have base_of : ∀ {b : Addr} {o : Obj}, s₁.heap.get? b = some o → H b = none → (hidT s₁.heap H).get? b = some o := fun e n => hidT_get e n
  have nsK : ∀ {b : Addr} {m : Str → Option Value}, s₁.heap.Ns b m → (hidT s₁.heap H).Ns b m := fun {b m} ⟨o, es, ep, e, d, r⟩ => ⟨o, es, ep, base_of e (noA e d), d, r⟩
  have nK : ∀ b o, K.lookup b = some o → H b = none := fun b o e => by
    cases q : H b with
    | none => rfl
    | some u =>
      rw [hK b u q] at e
      cases e
  have hKb : K.In (hidT s₁.heap H) := fun b o e => base_of (KX b o e) (nK b o e)
  have hM : Mod K mg (hidT s₁.heap H) := ⟨hKb, nsK hns, ⟨mb, nsK hb, hbb⟩, let ⟨mc, h1, h2⟩ := hlim; ⟨mc, nsK h1, h2⟩⟩
  have e0 : Env0 P w K mg (hidT s₁.heap H) callerA [] s₁ H := ⟨rfl, hM, fun b o e => of_hidT e, Nat.le_of_eq (hidT_size _ _), trivial, fun b hb => absurd (show b ∈ ([] : List Addr) from hb) (by simp), hok, .of_eq hg⟩
  have hl : vals.length = ps.length := by rw [wellAll_len hwl]; exact hlen
  refine codeAny_mono ((F _ hKb (nsK hns)).run callerA [] s₁ H ⟨vals, []⟩ vals (vals.map toV) _ _ hr e0 (hbind s₁ vals hl) hV (hsp H _ hO hS)) fun r s' x => ?_
  cases r with
  | error e => exact (hCX H e s' x).elim
  | ok fl =>
    cases fl with
    | next => exact False.elim x
    | brk => exact False.elim x
    | cont => exact False.elim x
    | ret u =>
      obtain ⟨v, H', os, bare, un, hok', r', q⟩ := x
      have kept : ∀ b o, s₁.heap.get? b = some o → s'.heap.get? b = some o := fun b o e => by
        cases q2 : H b with
        | none => exact un.keep b o e q2 (by intro z; exact absurd (show b ∈ ([] : List Addr) from z) (by simp)) (by simp)
        | some u2 =>
          rcases hO b with z | ⟨ob, u3, z⟩
          · rw [q2] at z
            cases z
          · have z2 := un.frzs b ob _ z
            obtain ⟨e1, _⟩ := hok b _ z
            obtain ⟨e2, _⟩ := hok' b _ z2
            rw [e] at e1
            cases e1
            exact e2
      have KX' : K.In s'.heap := fun b o e => kept b o (KX b o e)
      obtain ⟨as, hrd⟩ := Dw.reads (R := R) (cl := cl) hok' KX' d0 v u q r'
      exact ⟨u, as, rfl, hrd, OldK.of_keep kept, os, bare⟩
theorem layable_weight {ds : List WData} (h : WData.layableAll ds = true) : ∀ d ∈ ds, d.weight ≤ 1048576 := fun d hd =>
  (PySem.W.layableW_iff.mp (List.all_eq_true.mp h d hd)).2.2
theorem encAll_len : ∀ (cs : List Codec) (a : Codec.denoteAll cs), (Codec.encAll cs a).length = cs.length
  | [], _ => rfl
  | c :: cs, a => by
    show (Codec.encAll cs a.2).length + 1 = cs.length + 1
    rw [encAll_len cs a.2]
theorem walk_spec {r : OpenSpec} {k : Nat} {q : Program} {loose : List Str} {XP : (Str → Option Value) → Heap → Prop} {YP : World → Heap → Prop} {d : DefRec} {K : Params → PySem.W.Frag} {CX : World → CXT} {ps : List Str} {sp : World → Sp}
    (hwell : r.wellSaid = true) (hdf : d.params.defaults = []) (hlen : r.args.length = ps.length) (hr : Room k callerA)
    (hY : ∀ (w : World) (h : Heap), YP w h → (K w.params).In h)
    (F : ∀ (w : World) (mg : Str → Option Value) (fa : Addr) (h : Heap), YP w h → (K w.params).In h → h.Ns mainGlobals mg → mg d.name = some (.ref fa) →
      ∃ fd : FuncData, (∀ (s : Shared) (us : List Value), us.length = ps.length → BindsTo s fd ⟨us, []⟩ (ps.zip us)) ∧
        ∀ base : Heap, (K w.params).In base → base.Ns mainGlobals mg → FnOk r.prog w (K w.params) mg base (CX w) k fa fd ps (sp w))
    (hsp : ∀ (w : World) (H : Hp) (xs : List V) (a : Codec.denoteAll r.args), OnlyF H → Codec.withinAll r.args a = true → Codec.app r.args r.asked a = true → DwAll (K w.params) H xs (Codec.encAll r.args a) →
      sp w xs H (fun v H' => Dw (K w.params) H' v (r.ret.enc (Codec.app r.args r.f a))) fun _ _ _ => False)
    (hCX : ∀ (w : World) (H : Hp) (s : Shared) (e : Value) (s' : Shared), CX w [] H s (fun _ _ _ => False) e s' → False) :
    PySem.W.WalkOS q loose XP YP r d [] (fun f vs => PySem.call f vs) := by
  intro w s_0 s₁ mg mb G Y fa o pm cd doc dV kV ho hd hcd hD hmg hg args vals as hpre hlay hrd hwl hlo
  obtain ⟨a, e1, e2⟩ := PySem.W.os_pre_some hpre
  obtain ⟨e3, hwi⟩ := Codec.encAll_of_decAll r.args args a e1
  subst e3
  have KX := hY w _ Y
  obtain ⟨fd, hb, hF⟩ := F w mg fa _ Y KX G.T.g hmg
  refine PySem.W.enter_call (codeAny_mono (spec_call (R := []) (cl := classAt s_0.heap) (d0 := r.ret.enc (Codec.app r.args r.f a)) KX G.T.g G.T.b G.T.builtins G.T.nolimit hg hwl (pl_encAll _ _) (layable_weight hlay) hr hF hb (by rw [encAll_len]; exact hlen)
    (fun H xs hO hS => hsp w H xs a hO hwi e2 hS) fun H e s' => hCX w H s₁ e s') fun r' s' hq => ?_)
  obtain ⟨u, as', rfl, h1, h2, h3, h4⟩ := hq
  exact ⟨.inl ⟨u, _, as', rfl, fun _ => rfl, h1, (OpenSpec.post_iff hwell hwi _ _).mpr rfl, fun z => Bool.noConfusion (show false = true from z)⟩, h2, h3, h4⟩
end L2
-- rests on (row put in by the clerk, for the bench that shows a file only what it spells): KE.SpHead KE.OsShapes
end

namespace Tb
open WrTabs

noncomputable def cutStep (m : UInt8) (st : List Bytes × Bytes) (c : UInt8) : List Bytes × Bytes :=
  if c = m then (st.1 ++ [st.2], []) else (st.1, st.2 ++ [c])
noncomputable def cutAt (m : UInt8) (b : Bytes) : List Bytes := (b.foldl (cutStep m) ([], [])).1 ++ [(b.foldl (cutStep m) ([], [])).2]

noncomputable def sizeVal (d : Bytes) : Nat := d.foldl (fun (n : Nat) (c : UInt8) => n * 10 + (c.toNat - 48)) 0
noncomputable def readSize (d : Bytes) : Option Nat :=
  if d = [] ∨ 400 < d.length then none
  else if d.head? = some 48 ∧ 1 < d.length then none
  else if d.all isDigit = true then some (sizeVal d) else none
noncomputable def readWhole (b : Bytes) : Option Int :=
  if b.take 1 = [45] then (readSize (b.drop 1)).bind fun (n : Nat) => if n = 0 then none else some (-(n : Int))
  else (readSize b).map fun (n : Nat) => (n : Int)
noncomputable def fracParts (u : Int) (l : Nat) : Option (Int × Nat) := if l = 0 ∨ Nat.gcd u.natAbs l ≠ 1 then none else some (u, l)
noncomputable def readFraction (b : Bytes) : Option (Int × Nat) := match cutAt 47 b with
  | [p, q] => (readWhole p).bind fun u => (readSize q).bind fun l => fracParts u l
  | _ => none

noncomputable def escStep (st : Option (Bytes × Bool)) (c : UInt8) : Option (Bytes × Bool) := match st with
  | none => none
  | some (t, true) => if c = 110 then some (t ++ [10], false) else if c = 34 ∨ c = 92 then some (t ++ [c], false) else none
  | some (t, false) => if c = 92 then some (t, true) else if 32 ≤ c ∧ c ≤ 126 ∧ c ≠ 34 then some (t ++ [c], false) else none
noncomputable def unescape (b : Bytes) : Option Bytes := match b.foldl escStep (some ([], false)) with
  | some (t, false) => some t
  | _ => none
noncomputable def readText (b : Bytes) : Option Bytes :=
  if b.length < 2 ∨ b.head? ≠ some 34 ∨ b.getLast? ≠ some 34 then none
  else (unescape (b.drop 1).dropLast).bind fun t => if 1000 < t.length then none else some t
noncomputable def wordOf (b : Bytes) : Option Bytes := if b.all isWordByte = true then some b else none
noncomputable def readTruth (b : Bytes) : Option Bool := (wordOf b).bind fun w => if w = str "true" then some true else if w = str "false" then some false else none

inductive MCell where
  | none
  | whole (z : Int)
  | frac (u : Int) (l : Nat)
  | text (b : Bytes)
  | truth (b : Bool)
  deriving DecidableEq
noncomputable def readCell (b : Bytes) (s : Sort_) : Option MCell := if b = [] then some .none else match s with
  | .whole => (readWhole b).map .whole
  | .fraction => (readFraction b).map fun p => .frac p.1 p.2
  | .text => (readText b).map .text
  | .truth => (readTruth b).map .truth

noncomputable def readName (b : Bytes) : Option Bytes :=
  if b = [] ∨ 31 < b.length ∨ (b.head?.any isSmall) = false then none
  else (wordOf b).bind fun w => if KEYS.contains w = true then none else some w
noncomputable def readSort (b : Bytes) : Option Sort_ := (wordOf b).bind sortOfWord
noncomputable def readColumn (b : Bytes) : Option Col := match cutAt 58 b with
  | [p, q] => (readName p).bind fun n => (readSort q).map fun s => (n, s)
  | _ => none
noncomputable def allSome {α : Type} : List (Option α) → Option (List α)
  | [] => some []
  | none :: _ => none
  | some a :: r => (allSome r).map fun l => a :: l
noncomputable def readColumns (b : Bytes) : Option (List Col) :=
  if 32 < (cutAt 44 b).length then none
  else (allSome ((cutAt 44 b).map readColumn)).bind fun c => if (c.map fun (x : Col) => x.1).Nodup then some c else none

structure CutSt where
  pieces : List Bytes
  piece : Bytes
  quoted : Bool
  escaped : Bool
noncomputable def cellStep (st : CutSt) (c : UInt8) : CutSt :=
  { pieces := if c = 44 ∧ st.quoted = false then st.pieces ++ [st.piece] else st.pieces
    piece := if c = 44 ∧ st.quoted = false then [] else st.piece ++ [c]
    quoted := if c = 34 ∧ st.escaped = false then !st.quoted else st.quoted
    escaped := decide (c = 92) && !st.escaped }
noncomputable def cellsEnd (b : Bytes) : CutSt := b.foldl cellStep ⟨[], [], false, false⟩
noncomputable def cutCells (b : Bytes) : List Bytes := (cellsEnd b).pieces ++ [(cellsEnd b).piece]
noncomputable def readRow (b : Bytes) (cols : List Col) : Option (List MCell) :=
  if (cutCells b).length = cols.length then allSome (((cutCells b).zip cols).map fun p => readCell p.1 p.2.2) else none

structure MTable where
  cols : List Col
  rows : List (List MCell)
noncomputable def lineStep (t : MTable) (k : Nat) (l : Bytes) : Option MTable :=
  if k = 0 then (readColumns l).map fun c => { t with cols := c }
  else if 400 < k then none else (readRow l t.cols).map fun r => { t with rows := t.rows ++ [r] }
noncomputable def linesIn : MTable → Nat → List Bytes → Except Nat MTable
  | t, _, [] => .ok t
  | t, k, l :: r => match lineStep t k l with
    | none => .error k
    | some t' => linesIn t' (k + 1) r
noncomputable def readTable (b : Bytes) : Except Nat MTable :=
  match linesIn ⟨[], []⟩ 0 (cutAt 10 b).dropLast with
  | .error k => .error k
  | .ok t => if (cutAt 10 b).dropLast = [] ∨ (cutAt 10 b).getLast? ≠ some [] then .error (cutAt 10 b).dropLast.length else .ok t
noncomputable def readAns (b : Bytes) : List Int :=
  if 65536 < b.length then [9, 1] else match Tb.readTable b with
  | .error k => [9, 2, (k : Int)]
  | .ok t => [0, (t.rows.length : Int)]

theorem cut_fold (m : UInt8) : ∀ (b : Bytes) (ps : List Bytes) (p : Bytes), b.foldl (cutStep m) (ps, p) = (ps ++ (b.foldl (cutStep m) ([], p)).1, (b.foldl (cutStep m) ([], p)).2)
  | [], ps, p => by simp
  | c :: r, ps, p => by
    simp only [List.foldl_cons, cutStep]
    by_cases h : c = m
    · simp only [h, if_true]
      rw [cut_fold m r (ps ++ [p]), cut_fold m r ([] ++ [p])]
      simp
    · simp only [h, if_false]
      rw [cut_fold m r ps]
theorem cut_pre (m : UInt8) : ∀ (b : Bytes) (p : Bytes), (b.foldl (cutStep m) ([], p)).1 ++ [(b.foldl (cutStep m) ([], p)).2] =
    (p ++ (cutAt m b).headD []) :: (cutAt m b).tail
  | [], p => by simp [cutAt]
  | c :: r, p => by
    unfold cutAt
    simp only [List.foldl_cons, cutStep]
    by_cases h : c = m
    · simp only [h, if_true]
      rw [cut_fold m r ([] ++ [p]), cut_fold m r ([] ++ [[]])]
      simp
    · simp only [h, if_false]
      have e := cut_pre m r (p ++ [c])
      have e2 := cut_pre m r ([] ++ [c])
      rw [e, e2]
      simp
theorem cutAt_nil (m : UInt8) : cutAt m [] = [[]] := rfl
theorem cutAt_hit (m : UInt8) (r : Bytes) : cutAt m (m :: r) = [] :: cutAt m r := by
  unfold cutAt
  simp only [List.foldl_cons, cutStep, if_true]
  rw [cut_fold m r ([] ++ [[]])]
  simp
theorem cutAt_ne (m : UInt8) (b : Bytes) : cutAt m b ≠ [] := by unfold cutAt; simp
theorem cutAt_miss (m c : UInt8) (r : Bytes) (h : c ≠ m) : cutAt m (c :: r) = (c :: (cutAt m r).headD []) :: (cutAt m r).tail := by
  have e := cut_pre m r [c]
  unfold cutAt
  simp only [List.foldl_cons, cutStep, h, if_false]
  rw [List.nil_append]
  rw [e]
  rfl
theorem cutAt_take (m : UInt8) : ∀ b : Bytes, cutAt m b = if (b.takeWhile fun c => c != m).length = b.length then [b] else
    (b.takeWhile fun c => c != m) :: cutAt m (b.drop ((b.takeWhile fun c => c != m).length + 1))
  | [] => by simp [cutAt_nil]
  | c :: r => by
    by_cases h : c = m
    · subst h
      rw [cutAt_hit]
      simp
    · rw [cutAt_miss m c r h, cutAt_take m r]
      have hb : (c != m) = true := by simp [h]
      simp only [List.takeWhile_cons, hb, if_true, List.length_cons]
      by_cases e : (r.takeWhile fun c => c != m).length = r.length
      · have e' : (r.takeWhile fun c => c != m) = r := (List.takeWhile_sublist (p := fun c => c != m) (l := r)).eq_of_length e
        simp [e, e']
      · simp [e]
end Tb

namespace Tb
open WrTabs

theorem fold_le : ∀ (d : Bytes) (a : Nat), d.all isDigit = true → a * 10 ^ d.length ≤ d.foldl (fun (n : Nat) (c : UInt8) => n * 10 + (c.toNat - 48)) a ∧
    d.foldl (fun (n : Nat) (c : UInt8) => n * 10 + (c.toNat - 48)) a < (a + 1) * 10 ^ d.length
  | [], a, _ => by simp
  | c :: r, a, h => by
    (simp only [List.all_cons, Bool.and_eq_true] at h)
    have hc : c.toNat - 48 ≤ 9 := by
      have h1 := h.1
      simp only [isDigit, Bool.and_eq_true, decide_eq_true_eq] at h1
      have h2 := UInt8.le_iff_toNat_le.mp h1.2
      have e : (57 : UInt8).toNat = 57 := rfl
      omega
    obtain ⟨ih1, ih2⟩ := fold_le r (a * 10 + (c.toNat - 48)) h.2
    (simp only [List.foldl_cons, List.length_cons])
    have p : 10 ^ (r.length + 1) = 10 * 10 ^ r.length := by rw [Nat.pow_succ, Nat.mul_comm]
    rw [p]
    constructor
    · refine Nat.le_trans ?_ ih1
      rw [← Nat.mul_assoc]
      (exact Nat.mul_le_mul_right _ (by omega))
    · refine Nat.lt_of_lt_of_le ih2 ?_
      rw [← Nat.mul_assoc]
      (exact Nat.mul_le_mul_right _ (by omega))
theorem fold_comm (d : Bytes) (a : Nat) : d.foldl (fun (n : Nat) (c : UInt8) => 10 * n + (c.toNat - 48)) a = d.foldl (fun (n : Nat) (c : UInt8) => n * 10 + (c.toNat - 48)) a := by
  congr 1
  funext n c
  rw [Nat.mul_comm]
theorem digit_pos {c : UInt8} (h : isDigit c = true) (h0 : c ≠ 48) : 1 ≤ c.toNat - 48 := by
  simp only [isDigit, Bool.and_eq_true, decide_eq_true_eq] at h
  have h2 := UInt8.le_iff_toNat_le.mp h.1
  have e : (48 : UInt8).toNat = 48 := rfl
  have hne : c.toNat ≠ 48 := fun q => h0 (UInt8.toNat_inj.mp (q.trans e.symm))
  omega
theorem pow_big {n : Nat} (h : n ≤ 400) : 10 ^ n ≤ BIG := Nat.pow_le_pow_right (by decide) h
theorem big_pow {n : Nat} (h : 400 ≤ n) : BIG ≤ 10 ^ n := Nat.pow_le_pow_right (by decide) h
theorem readSize_eq (d : Bytes) : readSize d = natOf d := by
  unfold readSize natOf
  cases d with
  | nil => simp
  | cons c r =>
    by_cases hd : (c :: r).all isDigit = true
    · by_cases h0 : (c :: r).head? = some 48 ∧ 1 < (c :: r).length
      · have n : ¬ ((c :: r) = []) := by simp
        simp only [n, false_or, h0, and_self, if_true, or_true, hd]
        split <;> rfl
      · simp only [h0, hd, if_true, if_false, or_false, Bool.true_eq_false, reduceCtorEq, false_or]
        rw [fold_comm]
        have hc : isDigit c = true := by simp only [List.all_cons, Bool.and_eq_true] at hd; exact hd.1
        have hr : r.all isDigit = true := by simp only [List.all_cons, Bool.and_eq_true] at hd; exact hd.2
        have up := (fold_le (c :: r) 0 hd).2
        by_cases hl : 400 < (c :: r).length
        · rw [if_pos hl]
          have hne : c ≠ 48 := fun q => h0 ⟨by rw [q]; rfl, by omega⟩
          have lo := (fold_le r (0 * 10 + (c.toNat - 48)) hr).1
          have p1 := digit_pos hc hne
          have : BIG ≤ (c :: r).foldl (fun (n : Nat) (c : UInt8) => n * 10 + (c.toNat - 48)) 0 := by
            rw [List.foldl_cons]
            refine Nat.le_trans (big_pow (n := r.length) (by simp at hl; omega)) (Nat.le_trans ?_ lo)
            exact Nat.le_mul_of_pos_left _ (by omega)
          rw [if_neg (by omega)]
        · rw [if_neg hl]
          have : (c :: r).foldl (fun (n : Nat) (c : UInt8) => n * 10 + (c.toNat - 48)) 0 < BIG := by
            refine Nat.lt_of_lt_of_le up ?_
            rw [Nat.zero_add, Nat.one_mul]
            exact pow_big (by omega)
          rw [if_pos this]
          rfl
    · have hd' : (c :: r).all isDigit = false := by simpa using hd
      simp only [hd', reduceCtorEq, false_or, Bool.false_eq_true, if_false, true_or, if_true]
      split
      · rfl
      · split <;> rfl
theorem readWhole_eq (b : Bytes) : readWhole b = intOf b := by
  unfold readWhole intOf
  have e : (b.take 1 = [45]) ↔ b.head? = some 45 := by
    cases b with
    | nil => simp
    | cons c r => simp
  by_cases h : b.head? = some 45
  · rw [if_pos h, if_pos (e.mpr h), readSize_eq]
  · rw [if_neg h, if_neg (fun q => h (e.mp q)), readSize_eq]
theorem natOf_bad {d : Bytes} {c : UInt8} (hm : c ∈ d) (hc : isDigit c = false) : natOf d = none := by
  unfold natOf
  have : d.all isDigit = false := by
    rw [List.all_eq_false]
    exact ⟨c, hm, by simp [hc]⟩
  simp [this]
theorem intOf_bad {d : Bytes} {c : UInt8} (hm : c ∈ d) (hc : isDigit c = false) (h45 : c ≠ 45) : intOf d = none := by
  unfold intOf
  by_cases h : d.head? = some 45
  · rw [if_pos h]
    cases d with
    | nil => cases hm
    | cons x r =>
      simp at h
      subst h
      have : c ∈ r := by
        rcases List.mem_cons.mp hm with q | q
        · exact absurd q h45
        · exact q
      rw [show List.drop 1 ((45 : UInt8) :: r) = r from rfl, natOf_bad this hc]
      rfl
  · rw [if_neg h, natOf_bad hm hc]
    rfl
theorem tw_mem (m : UInt8) : ∀ b : Bytes, (b.takeWhile fun c => c != m).length ≠ b.length → m ∈ b
  | [], h => absurd rfl h
  | c :: r, h => by
    by_cases e : c = m
    · subst e; exact List.mem_cons_self
    · have hb : (c != m) = true := by simp [e]
      simp only [List.takeWhile_cons, hb, if_true, List.length_cons] at h
      exact List.mem_cons_of_mem _ (tw_mem m r fun q => h (by rw [q]))
theorem cut_two {m : UInt8} {b : Bytes} : (∃ q, cutAt m b = [q]) ∨ ∃ p q r, cutAt m b = p :: q :: r := by
  have h := cutAt_ne m b
  cases e : cutAt m b with
  | nil => exact absurd e h
  | cons p r => cases r with
    | nil => exact .inl ⟨p, rfl⟩
    | cons q r => exact .inr ⟨p, q, r, rfl⟩
theorem cut_more {m : UInt8} {b : Bytes} (h : (b.takeWhile fun c => c != m).length ≠ b.length) : ∃ p q r, cutAt m b = p :: q :: r := by
  rw [cutAt_take, if_neg h]
  have h2 := cutAt_ne m (b.drop ((b.takeWhile fun c => c != m).length + 1))
  cases e : cutAt m (b.drop ((b.takeWhile fun c => c != m).length + 1)) with
  | nil => exact absurd e h2
  | cons q r => exact ⟨_, q, r, rfl⟩
theorem readFraction_eq (b : Bytes) : fracOf b = (readFraction b).map fun p => (p.1 : Rat) / ((p.2 : Nat) : Rat) := by
  unfold readFraction fracOf
  rw [cutAt_take]
  by_cases h : (b.takeWhile fun c => c != 47).length = b.length
  · simp only [h, if_true]
    rfl
  · simp only [h, if_false]
    by_cases h2 : ((b.drop ((b.takeWhile fun c => c != 47).length + 1)).takeWhile fun c => c != 47).length = (b.drop ((b.takeWhile fun c => c != 47).length + 1)).length
    · rw [cutAt_take, if_pos h2]
      simp only [readWhole_eq, readSize_eq]
      cases intOf (b.takeWhile fun c => c != 47) with
      | none => rfl
      | some z =>
        cases natOf (b.drop ((b.takeWhile fun c => c != 47).length + 1)) with
        | none => rfl
        | some d =>
          simp only [Option.bind_some, fracParts]
          split <;> rfl
    · obtain ⟨p, q, r, e⟩ := cut_more h2
      rw [e]
      have hm := tw_mem 47 _ h2
      rw [natOf_bad hm (by decide)]
      cases intOf (b.takeWhile fun c => c != 47) <;> rfl

theorem esc_none : ∀ b : Bytes, b.foldl escStep none = none
  | [] => rfl
  | _ :: r => esc_none r
theorem quoted_of : ∀ (f : Nat) (r t rest : Bytes), quotedIn f r = some (t, rest) → ∃ c, r = c ++ 34 :: rest ∧ ∀ t0, c.foldl escStep (some (t0, false)) = some (t0 ++ t, false)
  | 0, r, t, rest, h => by cases r <;> simp [quotedIn] at h
  | f + 1, [], t, rest, h => by simp [quotedIn] at h
  | f + 1, c :: r, t, rest, h => by
    unfold quotedIn at h
    by_cases h34 : c = 34
    · simp only [h34, if_true, Option.some.injEq, Prod.mk.injEq] at h
      obtain ⟨rfl, rfl⟩ := h
      exact ⟨[], by simp [h34], fun t0 => by simp⟩
    · simp only [h34, if_false] at h
      by_cases h92 : c = 92
      · simp only [h92, if_true] at h
        cases r with
        | nil => simp at h
        | cons d s =>
          simp only at h
          by_cases hd : d = 34 ∨ d = 92
          · rw [if_pos hd] at h
            cases e : quotedIn f s with
            | none => rw [e] at h; simp at h
            | some x =>
              rw [e] at h
              simp only [Option.map_some, Option.some.injEq, Prod.mk.injEq] at h
              obtain ⟨h1, h2⟩ := h
              obtain ⟨c', e1, e2⟩ := quoted_of f s x.1 x.2 (by rw [e])
              refine ⟨92 :: d :: c', by rw [h92, e1, ← h2]; rfl, fun t0 => ?_⟩
              have hn : d ≠ 110 := by rcases hd with rfl | rfl <;> decide
              simp only [List.foldl_cons, escStep, if_true, hn, if_false, hd]
              rw [e2, ← h1]
              simp
          · rw [if_neg hd] at h
            by_cases hn : d = 110
            · rw [if_pos hn] at h
              cases e : quotedIn f s with
              | none => rw [e] at h; simp at h
              | some x =>
                rw [e] at h
                simp only [Option.map_some, Option.some.injEq, Prod.mk.injEq] at h
                obtain ⟨h1, h2⟩ := h
                obtain ⟨c', e1, e2⟩ := quoted_of f s x.1 x.2 (by rw [e])
                refine ⟨92 :: d :: c', by rw [h92, e1, ← h2]; rfl, fun t0 => ?_⟩
                simp only [List.foldl_cons, escStep, if_true, hn]
                rw [e2, ← h1]
                simp
            · rw [if_neg hn] at h; cases h
      · simp only [h92, if_false] at h
        by_cases hp : 32 ≤ c ∧ c ≤ 126
        · rw [if_pos hp] at h
          cases e : quotedIn f r with
          | none => rw [e] at h; simp at h
          | some x =>
            rw [e] at h
            simp only [Option.map_some, Option.some.injEq, Prod.mk.injEq] at h
            obtain ⟨h1, h2⟩ := h
            obtain ⟨c', e1, e2⟩ := quoted_of f r x.1 x.2 (by rw [e])
            refine ⟨c :: c', by rw [e1, ← h2]; rfl, fun t0 => ?_⟩
            have hq : 32 ≤ c ∧ c ≤ 126 ∧ c ≠ 34 := ⟨hp.1, hp.2, h34⟩
            simp only [List.foldl_cons, escStep, h92, if_false, hq, and_self, if_true, ne_eq, not_false_eq_true]
            rw [e2, ← h1]
            simp
        · (rw [if_neg hp] at h; cases h)
theorem of_quoted : ∀ (n : Nat) (c : Bytes), c.length ≤ n → ∀ (t0 t1 rest : Bytes) (f : Nat), c.length < f → c.foldl escStep (some (t0, false)) = some (t1, false) → ∃ t, t1 = t0 ++ t ∧ quotedIn f (c ++ 34 :: rest) = some (t, rest)
  | _, [], _, t0, t1, rest, f, hf, h => by
    simp only [List.foldl_nil, Option.some.injEq, Prod.mk.injEq, and_true] at h
    cases f with
    | zero => cases hf
    | succ f => exact ⟨[], by simp [h], by simp [quotedIn]⟩
  | 0, _ :: _, hn, _, _, _, _, _, _ => by simp at hn
  | n + 1, x :: r, hn, t0, t1, rest, f, hf, h => by
    cases f with
    | zero => cases hf
    | succ f =>
    simp only [List.length_cons] at hf hn
    simp only [List.foldl_cons, escStep] at h
    by_cases h92 : x = 92
    · simp only [h92, if_true] at h
      cases r with
      | nil => simp at h
      | cons y s =>
        simp only [List.length_cons] at hf hn
        simp only [List.foldl_cons, escStep] at h
        by_cases hn' : y = 110
        · simp only [hn', if_true] at h
          obtain ⟨t, e1, e2⟩ := of_quoted n s (by omega) (t0 ++ [10]) t1 rest f (by omega) h
          refine ⟨10 :: t, by simp [e1], ?_⟩
          subst h92 hn'
          simp only [List.cons_append, quotedIn]
          rw [if_neg (by decide), if_pos trivial, if_neg (by decide), if_pos trivial, e2]
          rfl
        · simp only [hn', if_false] at h
          by_cases hd : y = 34 ∨ y = 92
          · simp only [hd, if_true] at h
            obtain ⟨t, e1, e2⟩ := of_quoted n s (by omega) (t0 ++ [y]) t1 rest f (by omega) h
            refine ⟨y :: t, by simp [e1], ?_⟩
            subst h92
            simp only [List.cons_append, quotedIn]
            rw [if_neg (by decide), if_pos trivial, if_pos hd, e2]
            rfl
          · simp only [hd, if_false] at h
            rw [esc_none] at h; cases h
    · simp only [h92, if_false] at h
      by_cases hp : 32 ≤ x ∧ x ≤ 126 ∧ x ≠ 34
      · simp only [hp, and_self, if_true, ne_eq, not_false_eq_true] at h
        obtain ⟨t, e1, e2⟩ := of_quoted n r (by omega) (t0 ++ [x]) t1 rest f (by omega) h
        refine ⟨x :: t, by simp [e1], ?_⟩
        simp only [List.cons_append, quotedIn]
        rw [if_neg hp.2.2, if_neg h92, if_pos ⟨hp.1, hp.2.1⟩, e2]
        rfl
      · rw [if_neg hp, esc_none] at h; cases h
theorem unescape_some {c t : Bytes} : unescape c = some t ↔ c.foldl escStep (some ([], false)) = some (t, false) := by
  unfold unescape
  split
  · rename_i t' e; rw [e]; simp
  · rename_i h
    constructor
    · intro q; cases q
    · intro q; exact absurd q (h t)
theorem readText_some {p t : Bytes} : readText p = some t ↔ ∃ c, p = 34 :: (c ++ [34]) ∧ unescape c = some t ∧ t.length ≤ 1000 := by
  unfold readText
  constructor
  · intro h
    split at h
    · cases h
    · rename_i hc
      simp only [not_or, Decidable.not_not, Nat.not_lt] at hc
      obtain ⟨h1, h2, h3⟩ := hc
      cases p with
      | nil => simp at h2
      | cons x r =>
        simp at h2
        subst h2
        have hr : r ≠ [] := by intro q; subst q; simp at h1
        have e3 : r.getLast? = some 34 := by
          rw [List.getLast?_cons] at h3
          cases hq : r.getLast? with
          | none => rw [List.getLast?_eq_none_iff] at hq; exact absurd hq hr
          | some z => rw [hq] at h3; simpa using h3
        obtain ⟨c, rfl⟩ := List.getLast?_eq_some_iff.mp e3
        refine ⟨c, rfl, ?_⟩
        simp only [List.drop_succ_cons, List.drop_zero, List.dropLast_concat] at h
        cases e : unescape c with
        | none => rw [e] at h; cases h
        | some t' =>
          rw [e] at h
          simp only [Option.bind_some] at h
          split at h
          · cases h
          · rename_i hl
            cases h
            exact ⟨rfl, by omega⟩
  · rintro ⟨c, rfl, e, hl⟩
    have e1 : ¬ ((34 :: (c ++ [34]) : Bytes).length < 2 ∨ (34 :: (c ++ [34]) : Bytes).head? ≠ some 34 ∨ (34 :: (c ++ [34]) : Bytes).getLast? ≠ some 34) := by
      simp only [not_or, Decidable.not_not, Nat.not_lt]
      refine ⟨by simp, rfl, ?_⟩
      rw [List.getLast?_cons]
      simp
    rw [if_neg e1]
    simp only [List.drop_succ_cons, List.drop_zero, List.dropLast_concat, e, Option.bind_some]
    rw [if_neg (by omega)]
end Tb

namespace Tb
open WrTabs

noncomputable def toCell : MCell → Cell
  | .none => .none
  | .whole z => .num (z : Rat)
  | .frac u l => .num ((u : Rat) / ((l : Nat) : Rat))
  | .text b => .text b
  | .truth b => .truth b

noncomputable def cutFrom (p : Bytes) (q e : Bool) : Bytes → List Bytes
  | [] => [p]
  | c :: r => if c = 44 ∧ q = false then p :: cutFrom [] false false r
    else cutFrom (p ++ [c]) (if c = 34 ∧ e = false then !q else q) (decide (c = 92) && !e) r
theorem cutFrom_cons (p : Bytes) (q e : Bool) (c : UInt8) (r : Bytes) : cutFrom p q e (c :: r) = if c = 44 ∧ q = false then p :: cutFrom [] false false r
    else cutFrom (p ++ [c]) (if c = 34 ∧ e = false then !q else q) (decide (c = 92) && !e) r := rfl
theorem cells_from : ∀ (b : Bytes) (st : CutSt), (b.foldl cellStep st).pieces ++ [(b.foldl cellStep st).piece] = st.pieces ++ cutFrom st.piece st.quoted st.escaped b
  | [], st => by simp [cutFrom]
  | c :: r, st => by
    rw [List.foldl_cons, cells_from r, cutFrom_cons]
    by_cases h : c = 44 ∧ st.quoted = false
    · simp only [cellStep, h, and_self, if_true, List.append_assoc, List.singleton_append]
      have e1 : ((44 : UInt8) = 34 ∧ st.escaped = false) = False := by simp
      have e2 : (decide ((44 : UInt8) = 92) && !st.escaped) = false := by simp
      simp [e1, e2]
    · simp only [cellStep, h, if_false]
theorem cutCells_eq (b : Bytes) : cutCells b = cutFrom [] false false b := by
  unfold cutCells cellsEnd
  rw [cells_from b ⟨[], [], false, false⟩]
  rfl
theorem cutFrom_ne (p : Bytes) (q e : Bool) : ∀ b, cutFrom p q e b ≠ []
  | [] => by simp [cutFrom]
  | c :: r => by
    unfold cutFrom
    split
    · simp
    · exact cutFrom_ne _ _ _ r
theorem cutFrom_pre : ∀ (b p : Bytes) (q e : Bool), cutFrom p q e b = (p ++ (cutFrom [] q e b).headD []) :: (cutFrom [] q e b).tail
  | [], p, q, e => by simp [cutFrom]
  | c :: r, p, q, e => by
    unfold cutFrom
    by_cases h : c = 44 ∧ q = false
    · simp [h]
    · simp only [h, if_false]
      rw [cutFrom_pre r (p ++ [c]), cutFrom_pre r ([] ++ [c])]
      simp
theorem cutFrom_long : ∀ (w r p : Bytes) (q e : Bool), (∀ c ∈ w, c ≠ 44) → ∃ x ps, cutFrom p q e (w ++ r) = (p ++ w ++ x) :: ps
  | [], r, p, q, e, _ => ⟨_, _, by rw [List.nil_append, cutFrom_pre]; simp; exact ⟨rfl, rfl⟩⟩
  | c :: w, r, p, q, e, h => by
    have hc : ¬ (c = 44 ∧ q = false) := fun z => h c List.mem_cons_self z.1
    rw [List.cons_append]
    unfold cutFrom
    rw [if_neg hc]
    obtain ⟨x, ps, e1⟩ := cutFrom_long w r (p ++ [c]) (if c = 34 ∧ e = false then !q else q) (decide (c = 92) && !e) fun d hd => h d (List.mem_cons_of_mem _ hd)
    exact ⟨x, ps, by rw [e1]; simp⟩
theorem cutFrom_plain : ∀ (w r p : Bytes), (∀ c ∈ w, c ≠ 44 ∧ c ≠ 34 ∧ c ≠ 92) → cutFrom p false false (w ++ r) = cutFrom (p ++ w) false false r
  | [], r, p, _ => by simp
  | c :: w, r, p, h => by
    obtain ⟨h1, h2, h3⟩ := h c List.mem_cons_self
    rw [List.cons_append]
    conv => lhs; unfold cutFrom
    simp only [h1, h2, h3, false_and, if_false, decide_false, Bool.false_and]
    rw [cutFrom_plain w r (p ++ [c]) fun d hd => h d (List.mem_cons_of_mem _ hd)]
    simp
theorem cutFrom_quoted : ∀ (c r p t0 t1 : Bytes) (e e1 : Bool), c.foldl escStep (some (t0, e)) = some (t1, e1) → cutFrom p true e (c ++ r) = cutFrom (p ++ c) true e1 r
  | [], r, p, t0, t1, e, e1, h => by
    simp only [List.foldl_nil, Option.some.injEq, Prod.mk.injEq] at h
    simp [h.2]
  | x :: c, r, p, t0, t1, e, e1, h => by
    rw [List.foldl_cons] at h
    rw [List.cons_append]
    conv => lhs; unfold cutFrom
    have hq : ¬ (x = 44 ∧ true = false) := by simp
    rw [if_neg hq]
    cases e with
    | true =>
      simp only [escStep] at h
      by_cases hn : x = 110
      · simp only [hn, if_true] at h
        have := cutFrom_quoted c r (p ++ [x]) _ _ _ _ h
        simp only [Bool.true_eq_false, and_false, if_false, Bool.not_true, Bool.and_false]
        rw [this]; simp
      · simp only [hn, if_false] at h
        by_cases hd : x = 34 ∨ x = 92
        · simp only [hd, if_true] at h
          have := cutFrom_quoted c r (p ++ [x]) _ _ _ _ h
          simp only [Bool.true_eq_false, and_false, if_false, Bool.not_true, Bool.and_false]
          rw [this]; simp
        · simp only [hd, if_false] at h
          rw [esc_none] at h; cases h
    | false =>
      simp only [escStep] at h
      by_cases h92 : x = 92
      · simp only [h92, if_true] at h
        have := cutFrom_quoted c r (p ++ [x]) _ _ _ _ h
        subst h92
        have e34 : ¬ ((92 : UInt8) = 34 ∧ false = false) := by decide
        rw [if_neg e34]
        simp only [decide_true, Bool.not_false, Bool.and_self]
        rw [this]; simp
      · simp only [h92, if_false] at h
        by_cases hp : 32 ≤ x ∧ x ≤ 126 ∧ x ≠ 34
        · rw [if_pos hp] at h
          have := cutFrom_quoted c r (p ++ [x]) _ _ _ _ h
          have e34 : ¬ (x = 34 ∧ false = false) := fun z => hp.2.2 z.1
          rw [if_neg e34]
          simp only [h92, decide_false, Bool.false_and]
          rw [this]; simp
        · rw [if_neg hp, esc_none] at h; cases h
theorem cutFrom_begin : ∀ (b p : Bytes) (q e : Bool) (x : Bytes) (ps : List Bytes), cutFrom p q e b = x :: ps → ∃ y z, x = p ++ y ∧ b = y ++ z
  | [], p, q, e, x, ps, h => by
    simp only [cutFrom, List.cons.injEq] at h
    exact ⟨[], [], by simp [h.1], rfl⟩
  | c :: r, p, q, e, x, ps, h => by
    unfold cutFrom at h
    by_cases hc : c = 44 ∧ q = false
    · rw [if_pos hc] at h
      simp only [List.cons.injEq] at h
      exact ⟨[], c :: r, by simp [h.1], rfl⟩
    · rw [if_neg hc] at h
      obtain ⟨y, z, e1, e2⟩ := cutFrom_begin r _ _ _ x ps h
      exact ⟨c :: y, z, by simp [e1], by simp [e2]⟩

noncomputable def rowM (ss : List Sort_) (ps : List Bytes) : Option (List MCell) :=
  if ps.length = ss.length then allSome ((ps.zip ss).map fun x => readCell x.1 x.2) else none
theorem rowM_cons (s : Sort_) (ss : List Sort_) (p : Bytes) (ps : List Bytes) : rowM (s :: ss) (p :: ps) = (readCell p s).bind fun c => (rowM ss ps).map fun l => c :: l := by
  unfold rowM
  by_cases h : ps.length = ss.length
  · simp only [List.length_cons, h, if_true, List.zip_cons_cons, List.map_cons]
    cases readCell p s with
    | none => rfl
    | some c => rfl
  · have : ¬ ((p :: ps).length = (s :: ss).length) := by simpa using h
    rw [if_neg this, if_neg h]
    cases readCell p s <;> rfl
theorem rowM_len {ss : List Sort_} {ps : List Bytes} (h : ps.length ≠ ss.length) : rowM ss ps = none := by unfold rowM; rw [if_neg h]
theorem word_bad {p : Bytes} {c : UInt8} (hm : c ∈ p) (hc : isWordByte c = false) : wordOf p = none := by
  unfold wordOf
  rw [if_neg]
  intro h
  rw [List.all_eq_true] at h
  rw [h c hm] at hc; cases hc
theorem whole_bad {p : Bytes} {c : UInt8} (hm : c ∈ p) (hc : c = 34 ∨ c = 92) : readWhole p = none := by
  rw [readWhole_eq]
  rcases hc with rfl | rfl <;> exact intOf_bad hm (by decide) (by decide)
theorem frac_bad {p : Bytes} {c : UInt8} (hm : c ∈ p) (hc : c = 34 ∨ c = 92) : readFraction p = none := by
  unfold readFraction
  rw [cutAt_take]
  by_cases h : (p.takeWhile fun c => c != 47).length = p.length
  · rw [if_pos h]
  · rw [if_neg h]
    have hsp : p = (p.takeWhile fun c => c != 47) ++ 47 :: p.drop ((p.takeWhile fun c => c != 47).length + 1) := by
      clear hm
      induction p with
      | nil => simp at h
      | cons x r ih =>
        by_cases e : x = 47
        · subst e; simp
        · have hb : (x != 47) = true := by simp [e]
          simp only [List.takeWhile_cons, hb, if_true, List.length_cons] at h ⊢
          rw [List.cons_append, List.drop_succ_cons, ← ih (fun z => h (by rw [z]))]
    cases e : cutAt 47 (p.drop ((p.takeWhile fun c => c != 47).length + 1)) with
    | nil => rfl
    | cons q r => cases r with
      | cons _ _ => rfl
      | nil =>
        have hq : q = p.drop ((p.takeWhile fun c => c != 47).length + 1) := by
          rw [cutAt_take] at e
          split at e
          · simpa using e.symm
          · obtain ⟨_, _, _, e'⟩ := cut_two (m := 47) (b := (p.drop ((p.takeWhile fun c => c != 47).length + 1)).drop (((p.drop ((p.takeWhile fun c => c != 47).length + 1)).takeWhile fun c => c != 47).length + 1)) |>.elim (fun ⟨q, h⟩ => by rw [h] at e; simp at e) (fun h => h)
            rw [e'] at e; simp at e
        subst hq
        have hm' : c ∈ (p.takeWhile fun c => c != 47) ∨ c ∈ p.drop ((p.takeWhile fun c => c != 47).length + 1) := by
          rw [hsp] at hm
          rcases List.mem_append.mp hm with z | z
          · exact .inl z
          · rcases List.mem_cons.mp z with z | z
            · rcases hc with rfl | rfl <;> simp at z
            · exact .inr z
        rcases hm' with z | z
        · simp only [whole_bad z hc]; rfl
        · have : readSize (p.drop ((p.takeWhile fun c => c != 47).length + 1)) = none := by
            rw [readSize_eq]
            rcases hc with rfl | rfl <;> exact natOf_bad z (by decide)
          simp only [this]
          cases readWhole (p.takeWhile fun c => c != 47) <;> rfl
theorem truth_bad {p : Bytes} {c : UInt8} (hm : c ∈ p) (hc : c = 34 ∨ c = 92) : readTruth p = none := by
  unfold readTruth
  rw [word_bad hm (by rcases hc with rfl | rfl <;> decide)]
  rfl
theorem text_head {p : Bytes} {x : UInt8} {r : Bytes} (e : p = x :: r) (h : x ≠ 34) : readText p = none := by
  cases q : readText p with
  | none => rfl
  | some t =>
    obtain ⟨c, e1, _⟩ := readText_some.mp q
    rw [e] at e1
    simp only [List.cons.injEq] at e1
    exact absurd e1.1 h
theorem cell_bad {p : Bytes} {x : UInt8} {r : Bytes} {c : UInt8} (s : Sort_) (e : p = x :: r) (h : s = .text → x ≠ 34) (hm : c ∈ p) (hc : c = 34 ∨ c = 92) : readCell p s = none := by
  unfold readCell
  rw [if_neg (by rw [e]; simp)]
  cases s with
  | whole => simp only [whole_bad hm hc]; rfl
  | fraction => simp only [frac_bad hm hc]; rfl
  | text => simp only [text_head e (h rfl)]; rfl
  | truth => simp only [truth_bad hm hc]; rfl
theorem truth_eq (w : Bytes) : readTruth w = if w = str "true" then some true else if w = str "false" then some false else none := by
  unfold readTruth wordOf
  by_cases h : w.all isWordByte = true
  · rw [if_pos h]; rfl
  · rw [if_neg h]
    by_cases h1 : w = str "true"
    · subst h1; exact absurd (by decide) h
    · rw [if_neg h1]
      by_cases h2 : w = str "false"
      · subst h2; exact absurd (by decide) h
      · rw [if_neg h2]; rfl
theorem cellIn_plain (s : Sort_) (c : UInt8) (r : Bytes) (h : c ≠ 34) : cellIn s (c :: r) =
    (readCell ((c :: r).takeWhile fun x => x != 44) s).map fun m => (toCell m, (c :: r).drop ((c :: r).takeWhile fun x => x != 44).length) := by
  unfold cellIn
  simp only [h, if_false]
  generalize hw : (c :: r).takeWhile (fun x => x != 44) = w
  generalize (c :: r).drop w.length = rest
  by_cases hw0 : w = []
  · simp only [hw0, if_true, readCell]; rfl
  · unfold readCell
    simp only [hw0, if_false]
    cases s with
    | whole => simp only [readWhole_eq]; cases intOf w <;> rfl
    | fraction => simp only [readFraction_eq]; cases readFraction w <;> rfl
    | text =>
      have : readText w = none := by
        cases hq : w with
        | nil => exact absurd hq hw0
        | cons x y =>
          refine text_head rfl ?_
          rw [hq] at hw
          rw [List.takeWhile_cons] at hw
          split at hw
          · simp only [List.cons.injEq] at hw; rw [← hw.1]; exact h
          · cases hw
      simp only [this]; rfl
    | truth =>
      simp only [truth_eq]
      split
      · rfl
      · split <;> rfl
theorem tw_split (m : UInt8) : ∀ b : Bytes, b.drop (b.takeWhile fun x => x != m).length = [] ∨ ∃ q, b.drop (b.takeWhile fun x => x != m).length = m :: q
  | [] => .inl rfl
  | c :: r => by
    by_cases e : c = m
    · subst e; right; exact ⟨r, by simp⟩
    · have hb : (c != m) = true := by simp [e]
      simp only [List.takeWhile_cons, hb, if_true, List.length_cons, List.drop_succ_cons]
      exact tw_split m r
theorem tw_drop (m : UInt8) (b : Bytes) : (b.takeWhile fun x => x != m) ++ b.drop (b.takeWhile fun x => x != m).length = b := by
  induction b with
  | nil => rfl
  | cons c r ih =>
    by_cases e : c = m
    · subst e; simp
    · have hb : (c != m) = true := by simp [e]
      simp only [List.takeWhile_cons, hb, if_true, List.length_cons, List.drop_succ_cons, List.cons_append, ih]
theorem tw_no (m : UInt8) (b : Bytes) : ∀ c ∈ (b.takeWhile fun x => x != m), c ≠ m := by
  intro c hc
  have := List.all_takeWhile (p := fun x => x != m) (l := b)
  rw [List.all_eq_true] at this
  simpa using this c hc

noncomputable def after (ss : List Sort_) (x : Option (Cell × Bytes)) : Option (List Cell) := match ss with
  | [] => (match x with
    | some (c, []) => some [c]
    | _ => none)
  | t :: r => (match x with
    | some (c, 44 :: q) => (rowIn (t :: r) q).map fun (l : List Cell) => c :: l
    | _ => none)
theorem rowIn_after (s : Sort_) (ss : List Sort_) (b : Bytes) : rowIn (s :: ss) b = after ss (cellIn s b) := by
  cases ss <;> rfl
theorem row_good {s : Sort_} {ss : List Sort_} {b : Bytes} (ih : ∀ q : Bytes, ss ≠ [] → rowIn ss q = (rowM ss (cutFrom [] false false q)).map fun l => l.map toCell)
    (p rest : Bytes) (e1 : cutFrom [] false false b = cutFrom p false false rest) (e2 : rest = [] ∨ ∃ q, rest = 44 :: q) (e3 : cellIn s b = ((readCell p s).map fun m => (toCell m, rest))) :
    after ss (cellIn s b) = (rowM (s :: ss) (cutFrom [] false false b)).map fun l => l.map toCell := by
  rw [e1, e3]
  rcases e2 with rfl | ⟨q, rfl⟩
  · simp only [cutFrom]
    rw [rowM_cons]
    cases readCell p s with
    | none => cases ss <;> rfl
    | some m =>
      cases ss with
      | nil => rfl
      | cons t r => rw [rowM_len (by simp)]; rfl
  · rw [cutFrom_cons, if_pos ⟨rfl, rfl⟩, rowM_cons]
    cases readCell p s with
    | none => cases ss <;> rfl
    | some m =>
      cases ss with
      | nil =>
        have : rowM [] (cutFrom [] false false q) = none := rowM_len (by have := cutFrom_ne [] false false q; simpa using this)
        rw [this]; rfl
      | cons t r =>
        simp only [after, Option.map_some, Option.bind_some]
        rw [ih q (by simp)]
        cases rowM (t :: r) (cutFrom [] false false q) <;> rfl
theorem row_eq : ∀ (ss : List Sort_), ss ≠ [] → ∀ b : Bytes, rowIn ss b = (rowM ss (cutFrom [] false false b)).map fun l => l.map toCell
  | [], h, _ => absurd rfl h
  | s :: ss, _, b => by
    have ih : ∀ q : Bytes, ss ≠ [] → rowIn ss q = (rowM ss (cutFrom [] false false q)).map fun l => l.map toCell := fun q h => row_eq ss h q
    rw [rowIn_after]
    cases b with
    | nil => exact row_good ih [] [] rfl (.inl rfl) (by simp [cellIn, readCell, toCell])
    | cons c r =>
      by_cases h34 : c = 34
      · -- a text
        subst h34
        obtain ⟨x, ps, ex⟩ : ∃ x ps, cutFrom [] false false (34 :: r) = (34 :: x) :: ps := by
          obtain ⟨x, ps, e⟩ := cutFrom_long [34] r [] false false (by simp)
          exact ⟨x, ps, by simpa using e⟩
        by_cases hs : s = .text
        · subst hs
          have step : cutFrom [] false false (34 :: r) = cutFrom [34] true false r := by
            conv => lhs; unfold cutFrom
            rfl
          cases hq : quotedIn ((34 :: r : Bytes).length + 1) r with
          | none =>
            have e1 : cellIn .text (34 :: r) = none := by unfold cellIn; simp only [if_true]; rw [hq]; rfl
            have e2 : readText (34 :: x) = none := by
              cases ht : readText (34 :: x) with
              | none => rfl
              | some t =>
                exfalso
                obtain ⟨c', e3, e4, e5⟩ := readText_some.mp ht
                obtain ⟨y, z, e6, e7⟩ := cutFrom_begin _ _ _ _ _ _ ex
                simp only [List.nil_append] at e6
                rw [← e6, e3] at e7
                simp only [List.cons_append, List.cons.injEq, true_and, List.append_assoc, List.nil_append] at e7
                subst e7
                obtain ⟨t', _, e8⟩ := of_quoted _ c' (Nat.le_refl _) [] t z ((34 :: (c' ++ 34 :: z) : Bytes).length + 1) (by simp; omega) (unescape_some.mp e4)
                rw [hq] at e8; cases e8
            rw [e1, ex, rowM_cons]
            have : readCell (34 :: x) .text = none := by unfold readCell; simp [e2]
            rw [this]
            cases ss <;> rfl
          | some tr =>
            obtain ⟨t, rest⟩ := tr
            obtain ⟨c', e1, e2⟩ := quoted_of _ _ _ _ hq
            have e2' := e2 []
            simp only [List.nil_append] at e2'
            have e3 : cutFrom [] false false (34 :: r) = cutFrom (34 :: (c' ++ [34])) false false rest := by
              rw [step, e1, cutFrom_quoted c' (34 :: rest) [34] [] t false false e2']
              conv => lhs; unfold cutFrom
              simp
            have e4 : cellIn .text (34 :: r) = (readCell (34 :: (c' ++ [34])) .text).map fun m => (toCell m, rest) := by
              have hu : unescape c' = some t := unescape_some.mpr e2'
              unfold readCell
              rw [if_neg (by simp)]
              have e0 : cellIn .text (34 :: r) = if textOk t = true then some (.text t, rest) else none := by unfold cellIn; simp only [if_true]; rw [hq]; rfl
              rw [e0]
              by_cases hl : t.length ≤ 1000
              · rw [if_pos (show textOk t = true from decide_eq_true hl), readText_some.mpr ⟨c', rfl, hu, hl⟩]; rfl
              · rw [if_neg (show ¬ textOk t = true from fun z => hl (of_decide_eq_true z))]
                have : readText (34 :: (c' ++ [34])) = none := by
                  cases ht : readText (34 :: (c' ++ [34])) with
                  | none => rfl
                  | some t' =>
                    obtain ⟨c2, f1, f2, f3⟩ := readText_some.mp ht
                    simp only [List.cons.injEq, true_and] at f1
                    have f4 := List.append_inj_left' f1 rfl
                    subst f4
                    rw [hu] at f2; cases f2; exact absurd f3 hl
                rw [this]; rfl
            by_cases hr : rest = [] ∨ ∃ q, rest = 44 :: q
            · exact row_good ih (34 :: (c' ++ [34])) rest e3 hr e4
            · -- something else behind the text
              have hbad : after ss (cellIn .text (34 :: r)) = none := by
                rw [e4]
                cases readCell (34 :: (c' ++ [34])) .text with
                | none => cases ss <;> rfl
                | some m =>
                  cases ss with
                  | nil =>
                    cases rest with
                    | nil => exact absurd (.inl rfl) hr
                    | cons d q => rfl
                  | cons t2 r2 =>
                    cases rest with
                    | nil => exact absurd (.inl rfl) hr
                    | cons d q =>
                      have hd : d ≠ 44 := fun z => hr (.inr ⟨q, by rw [z]⟩)
                      simp only [after, Option.map_some]
                      split
                      · rename_i h; simp only [Option.some.injEq, Prod.mk.injEq, List.cons.injEq] at h; exact absurd h.2.1 hd
                      · rfl
              rw [hbad]
              cases rest with
              | nil => exact absurd (.inl rfl) hr
              | cons d q =>
                have hd : d ≠ 44 := fun z => hr (.inr ⟨q, by rw [z]⟩)
                obtain ⟨y, ps2, e5⟩ := cutFrom_long [d] q (34 :: (c' ++ [34])) false false (by simpa using hd)
                rw [e3]
                rw [List.singleton_append] at e5
                rw [e5, rowM_cons]
                have : readCell (34 :: (c' ++ [34]) ++ [d] ++ y) .text = none := by
                  unfold readCell
                  rw [if_neg (by simp)]
                  cases ht : readText (34 :: (c' ++ [34]) ++ [d] ++ y) with
                  | none => rfl
                  | some t' =>
                    exfalso
                    obtain ⟨c2, f1, f2, f3⟩ := readText_some.mp ht
                    simp only [List.cons_append, List.cons.injEq, true_and, List.append_assoc, List.nil_append] at f1
                    -- c' ++ 34 :: d :: y = c2 ++ [34]
                    obtain ⟨z, hz⟩ : ∃ z, c2 = c' ++ 34 :: z := by
                      have hl : (d :: y) ≠ [] := by simp
                      obtain ⟨z, lst, hzl⟩ : ∃ z lst, d :: y = z ++ [lst] := ⟨(d :: y).dropLast, (d :: y).getLast hl, (List.dropLast_concat_getLast hl).symm⟩
                      rw [hzl] at f1
                      have f1' : (c' ++ 34 :: z) ++ [lst] = c2 ++ [34] := by simpa using f1
                      exact ⟨z, (List.append_inj_left' f1' rfl).symm⟩
                    have f4 := unescape_some.mp f2
                    rw [hz, List.foldl_append, e2', List.foldl_cons] at f4
                    have : escStep (some (t, false)) 34 = none := by simp [escStep]
                    rw [this, esc_none] at f4; cases f4
                rw [this]; rfl
        · have e1 : cellIn s (34 :: r) = none := by simp [cellIn, hs]
          rw [e1, ex, rowM_cons, cell_bad s rfl (fun z => absurd z hs) (c := 34) (by simp) (.inl rfl)]
          cases ss <;> rfl
      · -- plain
        have hplain := cellIn_plain s c r h34
        have hsplit := tw_drop 44 (c :: r)
        have hno := tw_no 44 (c :: r)
        by_cases hw : ∃ x ∈ ((c :: r).takeWhile fun x => x != 44), x = 34 ∨ x = 92
        · obtain ⟨x, hx, hx2⟩ := hw
          obtain ⟨y, ps, e1⟩ := cutFrom_long ((c :: r).takeWhile fun x => x != 44) ((c :: r).drop ((c :: r).takeWhile fun x => x != 44).length) [] false false hno
          rw [hsplit] at e1
          have hc44 : c ≠ 44 := fun z => by
            subst z
            simp at hx
          have hb' : (c != 44) = true := by simp [hc44]
          have hhd : ∃ w', ((c :: r).takeWhile fun x => x != 44) = c :: w' := ⟨r.takeWhile fun x => x != 44, by simp [List.takeWhile_cons, hb']⟩
          obtain ⟨w', hw'⟩ := hhd
          rw [hplain, cell_bad s hw' (fun _ => h34) hx hx2, e1, rowM_cons]
          rw [cell_bad s (x := c) (r := w' ++ y) (by rw [hw']; simp) (fun _ => h34) (c := x) (by simp only [List.nil_append]; exact List.mem_append_left _ hx) hx2]
          cases ss <;> rfl
        · refine row_good ih ((c :: r).takeWhile fun x => x != 44) ((c :: r).drop ((c :: r).takeWhile fun x => x != 44).length) ?_ (tw_split 44 _) hplain
          have := cutFrom_plain ((c :: r).takeWhile fun x => x != 44) ((c :: r).drop ((c :: r).takeWhile fun x => x != 44).length) [] (fun x hx => ⟨hno x hx, fun z => hw ⟨x, hx, .inl z⟩, fun z => hw ⟨x, hx, .inr z⟩⟩)
          rw [hsplit] at this
          rw [this, List.nil_append]
end Tb

namespace Tb
open WrTabs

theorem split_eq (m : UInt8) : ∀ (f : Nat) (b : Bytes), b.length ≤ f → splitBy m f b = cutAt m b
  | 0, b, h => by
    have : b = [] := List.eq_nil_of_length_eq_zero (by omega)
    subst this; rfl
  | f + 1, b, h => by
    rw [cutAt_take]
    unfold splitBy
    by_cases e : (b.takeWhile fun c => c != m).length = b.length
    · have e' : (b.takeWhile fun c => c != m) = b := (List.takeWhile_sublist (p := fun c => c != m) (l := b)).eq_of_length e
      simp only [e, if_true, e']
    · simp only [e, if_false]
      rw [split_eq m f _ (by rw [List.length_drop]; omega)]
theorem allSome_eq {α : Type} : ∀ l : List (Option α), allSome l = if l.all Option.isSome = true then some (l.filterMap id) else none
  | [] => rfl
  | none :: r => by simp [allSome]
  | some a :: r => by
    simp only [allSome, allSome_eq r, List.all_cons, Option.isSome_some, Bool.true_and]
    split <;> simp
theorem name_eq (n : Bytes) : readName n = if isName n = true then some n else none := by
  unfold readName isName wordOf
  cases n with
  | nil => simp
  | cons c r =>
    simp only [reduceCtorEq, false_or, List.head?_cons, Option.any_some]
    by_cases h1 : isSmall c = true
    · by_cases h2 : (c :: r).all isWordByte = true
      · by_cases h3 : (c :: r).length ≤ 31
        · have : ¬ (31 < (c :: r).length ∨ isSmall c = false) := by simp only [h1, Bool.true_eq_false, or_false]; omega
          rw [if_neg this, if_pos h2]
          simp only [Option.bind_some, h1, h2, h3, decide_true, Bool.true_and]
          cases KEYS.contains (c :: r) <;> rfl
        · rw [if_pos (.inl (by omega))]
          simp only [h3, decide_false, Bool.false_and, Bool.and_false, Bool.false_eq_true, if_false]
      · rw [if_neg h2]
        have h2' : (c :: r).all isWordByte = false := by simpa using h2
        simp only [h2', Bool.false_and, Bool.and_false, Bool.false_eq_true, if_false]
        split <;> rfl
    · have h1' : isSmall c = false := by simpa using h1
      rw [if_pos (.inr h1')]
      simp [h1']
theorem sort_bad {b : Bytes} {c : UInt8} (hm : c ∈ b) (hc : isWordByte c = false) : sortOfWord b = none := by
  have k : ∀ w : Bytes, w.all isWordByte = true → b ≠ w := fun w hw e => by
    subst e
    rw [List.all_eq_true] at hw
    rw [hw c hm] at hc; cases hc
  unfold sortOfWord
  rw [if_neg (k _ (by decide)), if_neg (k _ (by decide)), if_neg (k _ (by decide)), if_neg (k _ (by decide))]
theorem sort_eq (b : Bytes) : readSort b = sortOfWord b := by
  unfold readSort wordOf
  by_cases h : b.all isWordByte = true
  · rw [if_pos h]; rfl
  · rw [if_neg h]
    have : ∃ c ∈ b, isWordByte c = false := by
      have h' : b.all isWordByte = false := by simpa using h
      rw [List.all_eq_false] at h'
      obtain ⟨c, hm, hc⟩ := h'
      exact ⟨c, hm, by simpa using hc⟩
    obtain ⟨c, hm, hc⟩ := this
    rw [sort_bad hm hc]; rfl
noncomputable def colIn (x : Bytes) : Option Col :=
  let n := x.takeWhile fun (c : UInt8) => c != 58
  if isName n = true ∧ n.length < x.length then (sortOfWord (x.drop (n.length + 1))).map fun (s : Sort_) => (n, s) else none
theorem col_eq (x : Bytes) : readColumn x = colIn x := by
  unfold readColumn colIn
  rw [cutAt_take]
  have hle : (x.takeWhile fun c => c != 58).length ≤ x.length := (List.takeWhile_sublist (p := fun c => c != 58) (l := x)).length_le
  by_cases h : (x.takeWhile fun c => c != 58).length = x.length
  · rw [if_pos h]
    have : ¬ (isName (x.takeWhile fun c => c != 58) = true ∧ (x.takeWhile fun c => c != 58).length < x.length) := fun z => by omega
    simp only [this, if_false]
  · rw [if_neg h]
    have hlt : (x.takeWhile fun c => c != 58).length < x.length := by omega
    by_cases h2 : ((x.drop ((x.takeWhile fun c => c != 58).length + 1)).takeWhile fun c => c != 58).length = (x.drop ((x.takeWhile fun c => c != 58).length + 1)).length
    · rw [cutAt_take, if_pos h2]
      simp only [name_eq, sort_eq, hlt, and_true]
      by_cases hn : isName (x.takeWhile fun c => c != 58) = true
      · simp only [hn, if_true, Option.bind_some]
      · simp only [hn, if_false]; rfl
    · obtain ⟨p, q, r, e⟩ := cut_more h2
      rw [e]
      have hm := tw_mem 58 _ h2
      dsimp only
      rw [sort_bad hm (by decide)]
      simp only [Option.map_none, ite_self]
theorem head_eq (b : Bytes) : headIn b = readColumns b := by
  unfold headIn readColumns
  rw [split_eq 44 b.length b (Nat.le_refl _)]
  show (let l := (cutAt 44 b).map colIn; if (l.all Option.isSome && decide (l.length ≤ COLS)) = false then none else
    let c := l.filterMap id
    if distinctNames (c.map fun (x : Col) => x.1) = true then some c else none) = _
  have ec : (cutAt 44 b).map readColumn = (cutAt 44 b).map colIn := List.map_congr_left fun x _ => col_eq x
  rw [ec, allSome_eq]
  simp only [List.length_map]
  by_cases hl : (cutAt 44 b).length ≤ 32
  · have hl' : (cutAt 44 b).length ≤ COLS := hl
    rw [if_neg (by omega : ¬ 32 < (cutAt 44 b).length)]
    simp only [hl', decide_true, Bool.and_true]
    by_cases ha : ((cutAt 44 b).map colIn).all Option.isSome = true
    · simp only [ha, Bool.true_eq_false, if_false, if_true, Option.bind_some]
      simp only [distinctNames, decide_eq_true_eq]
    · have ha' : ((cutAt 44 b).map colIn).all Option.isSome = false := by simpa using ha
      simp only [ha', if_true, Bool.false_eq_true, if_false]; rfl
  · have hl' : ¬ (cutAt 44 b).length ≤ COLS := hl
    rw [if_pos (by omega : 32 < (cutAt 44 b).length)]
    simp only [hl', decide_false, Bool.and_false, if_true]
theorem lines_eq : ∀ (f : Nat) (b : Bytes), b.length < f → linesFrom f b = (cutAt 10 b).dropLast.map (fun l => (l, true)) ++
    (if (cutAt 10 b).getLast? = some [] then [] else [((cutAt 10 b).getLastD [], false)])
  | 0, b, h => by omega
  | f + 1, b, h => by
    unfold linesFrom
    by_cases h0 : b = []
    · subst h0; rfl
    · rw [if_neg h0, cutAt_take]
      by_cases e : (b.takeWhile fun c => c != 10).length = b.length
      · have e' : (b.takeWhile fun c => c != 10) = b := (List.takeWhile_sublist (p := fun c => c != 10) (l := b)).eq_of_length e
        simp only [e, if_true, e', List.dropLast_singleton, List.map_nil, List.nil_append, List.getLast?_singleton, Option.some.injEq, h0, if_false]
        rfl
      · simp only [e, if_false]
        have hb0 : 0 < b.length := List.length_pos_iff.mpr h0
        rw [lines_eq f _ (by rw [List.length_drop]; omega)]
        have hne := cutAt_ne 10 (b.drop ((b.takeWhile fun c => c != 10).length + 1))
        generalize cutAt 10 (b.drop ((b.takeWhile fun c => c != 10).length + 1)) = ls at hne
        cases ls with
        | nil => exact absurd rfl hne
        | cons x r => simp [List.dropLast_cons_cons, List.getLast?_cons_cons]
theorem zip_sorts : ∀ (ps : List Bytes) (cols : List Col), (ps.zip cols).map (fun p => readCell p.1 p.2.2) = (ps.zip (cols.map fun (x : Col) => x.2)).map fun x => readCell x.1 x.2
  | [], _ => rfl
  | _ :: _, [] => rfl
  | p :: ps, c :: cs => by simp only [List.zip_cons_cons, List.map_cons, zip_sorts ps cs]
theorem readRow_eq (cols : List Col) (b : Bytes) : readRow b cols = rowM (cols.map fun (x : Col) => x.2) (cutFrom [] false false b) := by
  unfold readRow rowM
  rw [cutCells_eq, List.length_map]
  split
  · congr 1
    exact zip_sorts _ _
  · rfl
theorem readColumns_ne {b : Bytes} {c : List Col} (h : readColumns b = some c) : c ≠ [] := by
  unfold readColumns at h
  split at h
  · cases h
  · cases e : allSome ((cutAt 44 b).map readColumn) with
    | none => rw [e] at h; cases h
    | some c' =>
      rw [e] at h
      simp only [Option.bind_some] at h
      split at h
      · cases h
        intro q
        subst q
        have := cutAt_ne 44 b
        cases e2 : cutAt 44 b with
        | nil => exact this e2
        | cons x r =>
          rw [e2, List.map_cons] at e
          cases e3 : readColumn x with
          | none => rw [e3] at e; cases e
          | some y => rw [e3] at e; simp only [allSome] at e; cases e4 : allSome (r.map readColumn) with
            | none => rw [e4] at e; cases e
            | some z => rw [e4] at e; cases e
      · cases h
theorem rows_eq (c : List Col) (hc : c ≠ []) (tail : List (Bytes × Bool)) (ht : tail = [] ∨ ∃ x, tail = [(x, false)]) : ∀ (r : List Bytes) (k : Nat) (acc : List (List MCell)), 0 < k →
    rowsIn (c.map fun (x : Col) => x.2) k (r.map (fun l => (l, true)) ++ tail) = match linesIn ⟨c, acc⟩ k r with
      | .error j => .error j
      | .ok t => if tail = [] then .ok ((t.rows.drop acc.length).map fun l => l.map toCell) else .error (k + r.length)
  | [], k, acc, hk => by
    simp only [List.map_nil, List.nil_append, linesIn]
    rcases ht with rfl | ⟨x, rfl⟩
    · simp [rowsIn]
    · simp [rowsIn]
  | l :: r, k, acc, hk => by
    simp only [List.map_cons, List.cons_append, linesIn, rowsIn, lineStep]
    have hk0 : ¬ k = 0 := by omega
    by_cases h4 : 400 < k
    · have : (true = false ∨ ROWS < k) := .inr h4
      rw [if_pos this]
      simp only [hk0, h4, if_true, if_false]
    · have : ¬ (true = false ∨ ROWS < k) := by
        rintro (z | z)
        · cases z
        · exact h4 z
      rw [if_neg this]
      simp only [hk0, h4, if_false]
      rw [row_eq _ (by simpa using hc), readRow_eq]
      cases rowM (c.map fun (x : Col) => x.2) (cutFrom [] false false l) with
      | none => rfl
      | some m =>
        simp only [Option.map_some]
        rw [rows_eq c hc tail ht r (k + 1) (acc ++ [m]) (by omega)]
        cases e : linesIn ⟨c, acc ++ [m]⟩ (k + 1) r with
        | error j => rfl
        | ok t =>
          simp only
          by_cases htl : tail = []
          · simp only [htl, if_true]
            have key : ∀ (r : List Bytes) (k : Nat) (t0 t1 : MTable), 0 < k → linesIn t0 k r = .ok t1 → ∃ more, t1.rows = t0.rows ++ more := by
              intro r
              induction r with
              | nil => intro k t0 t1 _ h; simp only [linesIn] at h; cases h; exact ⟨[], by simp⟩
              | cons l r ih =>
                intro k t0 t1 hk h
                simp only [linesIn, lineStep] at h
                have hk0 : ¬ k = 0 := by omega
                simp only [hk0, if_false] at h
                by_cases h4 : 400 < k
                · simp only [h4, if_true] at h; cases h
                · simp only [h4, if_false] at h
                  cases e : readRow l t0.cols with
                  | none => rw [e] at h; cases h
                  | some m =>
                    rw [e] at h
                    simp only [Option.map_some] at h
                    obtain ⟨more, q⟩ := ih (k + 1) _ t1 (by omega) h
                    exact ⟨[m] ++ more, by rw [q]; simp⟩
            obtain ⟨more, q⟩ := key r (k + 1) _ t (by omega) e
            simp only [Except.map, q]
            simp
          · simp only [htl, if_false, Except.map, List.length_cons]
            congr 1
            omega
theorem cols_keep : ∀ (r : List Bytes) (k : Nat) (t0 t1 : MTable), 0 < k → linesIn t0 k r = .ok t1 → t1.cols = t0.cols
  | [], k, t0, t1, _, h => by simp only [linesIn] at h; cases h; rfl
  | l :: r, k, t0, t1, hk, h => by
    simp only [linesIn, lineStep] at h
    have hk0 : ¬ k = 0 := by omega
    simp only [hk0, if_false] at h
    by_cases h4 : 400 < k
    · simp only [h4, if_true] at h; cases h
    · simp only [h4, if_false] at h
      cases e : readRow l t0.cols with
      | none => rw [e] at h; cases h
      | some m =>
        rw [e] at h
        simp only [Option.map_some] at h
        have := cols_keep r (k + 1) _ t1 (by omega) h
        exact this
theorem table_eq (b : Bytes) : WrTabs.readTable b = match Tb.readTable b with
    | .error k => .error k
    | .ok t => .ok ⟨t.cols, t.rows.map fun l => l.map toCell⟩ := by
  unfold WrTabs.readTable Tb.readTable linesOf
  rw [lines_eq (b.length + 1) b (by omega)]
  have hne := cutAt_ne 10 b
  generalize cutAt 10 b = ls at hne
  obtain ⟨ini, lst, rfl⟩ : ∃ ini lst, ls = ini ++ [lst] := ⟨ls.dropLast, ls.getLast hne, (List.dropLast_concat_getLast hne).symm⟩
  simp only [List.dropLast_concat, List.getLast?_concat, List.getLastD_concat, Option.some.injEq, ne_eq]
  cases ini with
  | nil =>
    simp only [linesIn, List.map_nil, List.nil_append, List.length_nil, true_or, if_true]
    by_cases h : lst = []
    · simp [h]
    · simp [h]
  | cons h r =>
    simp only [List.map_cons, List.cons_append, linesIn, lineStep, if_true, reduceCtorEq, false_or]
    rw [head_eq]
    cases e : readColumns h with
    | none => rfl
    | some c =>
      simp only [Option.map_some]
      rw [rows_eq c (readColumns_ne e) (if lst = [] then [] else [(lst, false)]) (by split <;> simp) r 1 [] (by omega)]
      cases e2 : linesIn ⟨c, []⟩ (0 + 1) r with
      | error j => rfl
      | ok t =>
        have hcols := cols_keep r (0 + 1) _ _ (by omega) e2
        by_cases hl : lst = []
        · simp only [hl, if_true, not_true_eq_false, if_false, Except.map, List.length_nil, List.drop_zero]
          rw [hcols]
        · simp only [hl, if_false, not_false_eq_true, if_true, reduceCtorEq, Except.map, List.length_cons]
          congr 1
          omega
theorem ans_eq (b : Bytes) : WrTabsNeutral.told (WrTabs.answer (.read b)) = readAns b := by
  unfold WrTabs.answer looked fine readAns
  by_cases h : 65536 < b.length
  · have h1 : ¬ b.length ≤ BYTES := by unfold BYTES; omega
    simp only [h, if_true]
    have : (decide ((([] : Bytes)).length ≤ BYTES) && (decide (1 ≤ [b].length) && (decide ([b].length ≤ TABLES) && ([b].all fun t => decide (t.length ≤ BYTES))))) = false := by
      simp [h1]
    rw [this]
    rfl
  · have h1 : b.length ≤ BYTES := by unfold BYTES; omega
    simp only [h, if_false]
    have : (decide ((([] : Bytes)).length ≤ BYTES) && (decide (1 ≤ [b].length) && (decide ([b].length ≤ TABLES) && ([b].all fun t => decide (t.length ≤ BYTES))))) = true := by
      simp [h1, TABLES]
    rw [this]
    simp only [Bool.true_eq_false, if_false]
    rw [table_eq]
    cases Tb.readTable b with
    | error k => rfl
    | ok t => simp [WrTabsNeutral.told]
end Tb

namespace L2
open PySem PySem.Spec PyProof.Rows

noncomputable def ExcAt (h B : Heap) (e : Addr) (cls : Value) (dd : Option Addr) (cx : Value) : Prop :=
  ∃ o vs, h.get? e = some o ∧ o.cls = cls ∧ o.dict = dd ∧ o.data = .fields vs ∧ vs[2]? = some cx ∧
    (vs[1]? = some .none ∨ ∃ T oT ts fl, vs[1]? = some (.ref T) ∧ B.get? T = none ∧ T ≠ e ∧ h.get? T = some oT ∧ oT.data = .fields ts ∧ ts[3]? = some fl)
noncomputable def TrcAt (h B : Heap) (e : Addr) (cls : Value) (dd : Option Addr) (cx fl : Value) : Prop :=
  ∃ o vs T oT ts, h.get? e = some o ∧ o.cls = cls ∧ o.dict = dd ∧ o.data = .fields vs ∧ vs[2]? = some cx ∧
    vs[1]? = some (.ref T) ∧ B.get? T = none ∧ T ≠ e ∧ h.get? T = some oT ∧ oT.data = .fields ts ∧ ts[3]? = some fl
theorem TrcAt.exc {h B : Heap} {e : Addr} {cls : Value} {dd : Option Addr} {cx fl : Value} (x : TrcAt h B e cls dd cx fl) : ExcAt h B e cls dd cx := by
  obtain ⟨o, vs, T, oT, ts, q0, q1, q2, q3, q4, q5, q6, q7, q8, q9, q10⟩ := x
  exact ⟨o, vs, q0, q1, q2, q3, q4, .inr ⟨T, oT, ts, fl, q5, q6, q7, q8, q9, q10⟩⟩
theorem dict_mapF (o : Obj) (f : Array Value → Array Value) : (o.mapFields f).dict = o.dict := by
  obtain ⟨c, d, dt, sl⟩ := o
  cases dt <;> rfl
structure Noted (B : Heap) (l : List Env) (h h' : Heap) : Prop where
  stay : B.StaysIn h'
  fun_ : h'.FunFrames B l
  up : h.UpToSlots h'

section
variable {M : Model} {A : Around} {E : Value → Shared → Prop} {s : Shared} {B : Heap} {env : Env} {outer : List Env} {L e : Addr} {cls cx : Value} {dd : Option Addr} {Q : Unit → Shared → Prop}

theorem nt_entry {o : Obj} {vs : Array Value} {head : Value} {had : Bool} (hfr : A.frames = some (env :: outer)) (hl : s.heap.FunFrames B (env :: outer)) (hf : env.frame = some L)
    (q0 : s.heap.get? e = some o) (kb : B.StaysIn s.heap) (nb : B.get? e = none) (q3 : o.data = .fields vs) (hz : 1 < vs.size) (q4 : vs[2]? = some cx)
    (k : ∀ h', Noted B (env :: outer) s.heap h' → TrcAt h' B e o.cls o.dict cx (rawInt L) → Q () { s with heap := h' }) :
    wpAny M A (do let a ← frameOf env; let pl ← entryPlaceOf L had; let b ← EntryCells.newEntry head a .none (rawInt L) .none pl; setField (.ref e) 1 b) Q E s := by
  have nf : e ∉ (env :: outer).filterMap (·.frame) := fun z => by
    obtain ⟨_, o', z1, z2⟩ := hl.mem z
    rw [q0] at z1
    cases z1
    exact z2 vs q3
  refine wpAny_bind (wpAny_frameOf_fun hfr hl hf fun g1 sg => ?_)
  refine wpAny_bind (wpAny_entryPlaceOf fun pl pp => ?_)
  (unfold EntryCells.newEntry newFields)
  refine wpAny_bind (wpAny_newObj_type ?_ (pp.sizeOk5 _ _ _ _ _))
  have e1 : g1.get? e = some o := (sg.2.1 e nf).trans q0
  have k1 : B.StaysIn g1 := fun b ob hb => (sg.2.1 b fun z => by rw [(hl.mem z).1] at hb; cases hb).trans (kb b ob hb)
  have e2 := Heap.get?_push_of_some (h := g1) { cls := .type "traceback", dict := none, data := .fields ([head, .ref L, .none, rawInt L, .none] ++ (if pl.isEmpty then List.replicate 6 Value.none else pl)).toArray } e1
  have nT : g1.objs.size ≠ e := Nat.ne_of_gt (Heap.lt_size e1)
  have d3 := Obj.data_mapFields q3 (·.setIfInBounds 1 (Value.ref g1.objs.size))
  have e3 := Heap.get?_update_self (Obj.mapFields (·.setIfInBounds 1 (Value.ref g1.objs.size))) e2 (Obj.isFreed_of_fields d3)
  have t3 := (Heap.get?_update_other (g1.push { cls := .type "traceback", dict := none, data := .fields ([head, .ref L, .none, rawInt L, .none] ++ (if pl.isEmpty then List.replicate 6 Value.none else pl)).toArray })
    (Obj.mapFields (·.setIfInBounds 1 (Value.ref g1.objs.size))) (Ne.symm nT)).trans (Heap.get?_push_size g1 rfl)
  have kp : ∀ b ob, b ≠ e → g1.get? b = some ob → ((g1.push { cls := .type "traceback", dict := none, data := .fields ([head, .ref L, .none, rawInt L, .none] ++ (if pl.isEmpty then List.replicate 6 Value.none else pl)).toArray }).update e
      (Obj.mapFields (·.setIfInBounds 1 (Value.ref g1.objs.size)))).get? b = some ob := fun b ob ne hb => by
    rw [Heap.get?_update_other _ _ (Ne.symm ne)]
    (exact Heap.get?_push_of_some _ hb)
  have nr : ∀ b ob, s.heap.get? b = some ob → (∀ vs, ob.data ≠ .fields vs) → b ≠ e := fun b ob hb hn z => by
    rw [z, q0] at hb
    cases hb
    exact hn vs q3
  refine wpAny_setField e2 q3 hz (k _ ⟨fun b ob hb => kp b ob (fun z => by rw [z, nb] at hb; cases hb) (k1 b ob hb), hl.of_keeps fun b ob hb hn => ?_, fun b ob hb hn => ?_⟩ ?_)
  · obtain ⟨sl, z⟩ := sg.2.2 b ob hb
    exact ⟨_, kp b _ (nr b ob hb hn) z, rfl⟩
  · obtain ⟨sl, z⟩ := sg.2.2 b ob hb
    exact ⟨sl, kp b _ (nr b ob hb hn) z⟩
  · refine ⟨_, _, g1.objs.size, _, _, e3, Obj.cls_mapFields _ _, dict_mapF _ _, d3, ?_, by simp [hz], k1.fresh, nT, t3, rfl, by first | (simp; done) | (rcases pp with rfl | ⟨_, _, _, _, _, _, _, rfl⟩ <;> simp)⟩
    rw [Array.getElem?_setIfInBounds_ne (by decide)]
    exact q4

theorem nt_note (hfr : A.frames = some (env :: outer)) (hl : s.heap.FunFrames B (env :: outer)) (hf : env.frame = some L) (kb : B.StaysIn s.heap) (nb : B.get? e = none) (x : ExcAt s.heap B e cls dd cx)
    (k : ∀ h', Noted B (env :: outer) s.heap h' → TrcAt h' B e cls dd cx (rawInt L) → Q () { s with heap := h' }) : wpAny M A (noteFrame (.ref e) env) Q E s := by
  obtain ⟨o, vs, q0, rfl, rfl, q3, q4, q5⟩ := x
  have hz2 : 2 < vs.size := (Array.getElem?_eq_some_iff.mp q4).1
  have hz : 1 < vs.size := by omega
  unfold noteFrame
  simp only [hf]
  rcases q5 with q5 | ⟨T, oT, ts, fl, q5, q6, q7, q8, q9, q10⟩
  · refine wpAny_bind (wpAny_field q0 q3 q5 ?_)
    rw [if_neg (by decide)]
    exact nt_entry hfr hl hf q0 kb nb q3 hz q4 k
  · refine wpAny_bind (wpAny_field q0 q3 q5 ?_)
    (rw [if_pos (show (Value.ref T != Value.none) = true from by simp)])
    refine wpAny_bind (wpAny_field q8 q9 q10 ?_)
    by_cases hm : (fl == rawInt L) = true
    · rw [if_pos hm]
      have hm' : fl = rawInt L := beq_iff_eq.mp hm
      subst hm'
      exact wpAny_pure (k s.heap ⟨kb, hl, .refl _⟩ ⟨o, vs, T, oT, ts, q0, rfl, rfl, q3, q4, q5, q6, q7, q8, q9, q10⟩)
    · rw [if_neg hm]
      have hz3 : 3 < ts.size := (Array.getElem?_eq_some_iff.mp q10).1
      refine wpAny_bind (wpAny_setField q8 q9 hz3 ?_)
      have ot : ∀ b, b ≠ T → (s.heap.update T (Obj.mapFields (·.setIfInBounds 3 Value.none))).get? b = s.heap.get? b := fun b hb => Heap.get?_update_other _ _ (Ne.symm hb)
      have nr : ∀ b ob, s.heap.get? b = some ob → (∀ vs, ob.data ≠ .fields vs) → b ≠ T := fun b ob hb hn z => by
        rw [z, q8] at hb
        cases hb
        exact hn ts q9
      refine nt_entry (s := { s with heap := s.heap.update T (Obj.mapFields (·.setIfInBounds 3 Value.none)) }) hfr (hl.of_keeps fun b ob hb hn => ⟨ob, (ot b (nr b ob hb hn)).trans hb, rfl⟩) hf ((ot e (Ne.symm q7)).trans q0)
        (fun b ob hb => (ot b fun z => by rw [z, q6] at hb; cases hb).trans (kb b ob hb)) nb q3 hz q4 fun h' nn tr => k h' ⟨nn.stay, nn.fun_, fun b ob hb hn => nn.up b ob ((ot b (nr b ob hb hn)).trans hb) hn⟩ tr

theorem nt_mark {fl : Value} {m : Option Addr} {l : List Env} (kb : B.StaysIn s.heap) (hl : s.heap.FunFrames B l) (x : TrcAt s.heap B e cls dd cx fl)
    (k : ∀ h', Noted B l s.heap h' → TrcAt h' B e cls dd cx (m.elim .none fun f => rawInt f) → Q () { s with heap := h' }) : wpAny M A (setFlight (.ref e) m) Q E s := by
  obtain ⟨o, vs, T, oT, ts, q0, q1, q2, q3, q4, q5, q6, q7, q8, q9, q10⟩ := x
  have hz3 : 3 < ts.size := (Array.getElem?_eq_some_iff.mp q10).1
  have ot : ∀ b, b ≠ T → (s.heap.update T (Obj.mapFields (·.setIfInBounds 3 (m.elim Value.none fun f => rawInt f)))).get? b = s.heap.get? b := fun b hb => Heap.get?_update_other _ _ (Ne.symm hb)
  have nr : ∀ b ob, s.heap.get? b = some ob → (∀ vs, ob.data ≠ .fields vs) → b ≠ T := fun b ob hb hn z => by
    rw [z, q8] at hb
    cases hb
    exact hn ts q9
  unfold setFlight
  refine wpAny_bind (wpAny_field q0 q3 q5 ?_)
  (rw [if_pos (show (Value.ref T != Value.none) = true from by simp)])
  refine wpAny_setField q8 q9 hz3 (k _ ⟨fun b ob hb => (ot b fun z => by rw [z, q6] at hb; cases hb).trans (kb b ob hb), hl.of_keeps fun b ob hb hn => ⟨ob, (ot b (nr b ob hb hn)).trans hb, rfl⟩,
    fun b ob hb hn => ⟨ob.slots, (ot b (nr b ob hb hn)).trans hb⟩⟩ ?_)
  exact ⟨o, vs, T, _, _, (ot e (Ne.symm q7)).trans q0, q1, q2, q3, q4, q5, q6, q7, Heap.get?_update_self _ q8 (Obj.isFreed_of_fields (Obj.data_mapFields q9 _)), Obj.data_mapFields q9 _, by simp [hz3]⟩

theorem nt_leave (hfr : A.frames = some (env :: outer)) (hl : s.heap.FunFrames B (env :: outer)) (hf : env.frame = some L) (kb : B.StaysIn s.heap) (nb : B.get? e = none) (x : ExcAt s.heap B e cls dd cx)
    (k : ∀ h', Noted B (env :: outer) s.heap h' → TrcAt h' B e cls dd cx .none → Q () { s with heap := h' }) : wpAny M A (leaving env (.ref e)) Q E s := by
  unfold leaving
  refine wpAny_bind (nt_note hfr hl hf kb nb x fun h1 n1 t1 => ?_)
  refine nt_mark (s := { s with heap := h1 }) (m := none) n1.stay n1.fun_ t1 fun h2 n2 t2 => k h2 ⟨n2.stay, n2.fun_, n1.up.trans n2.up⟩ t2
end

theorem ObjOk.obj {P : Program} {w : World} {H : Hp} {h : Heap} {a : Addr} {o : HO} (x : ObjOk P w H h a o) : ∃ ob, h.get? a = some ob := by
  cases o with
  | lst xs => obtain ⟨_, _, _, _, e⟩ := x; exact ⟨_, e⟩
  | tup xs => obtain ⟨_, _, _, ob, e, _⟩ := x; exact ⟨_, e⟩
  | dK kvs => obtain ⟨_, _, _, _, o, _, _, e, _⟩ := x; exact ⟨_, e⟩
  | dT kvs => obtain ⟨_, _, _, _, o, _, _, e, _⟩ := x; exact ⟨_, e⟩
  | set S n => obtain ⟨o, _, _, _, e, _⟩ := x; exact ⟨_, e⟩
  | ins C dx fs => obtain ⟨_, _, _, e, _⟩ := x; exact ⟨_, e⟩
  | own y => exact x
  | xd fs => obtain ⟨_, ⟨_, _, _, e, _⟩, _⟩ := x; exact ⟨_, e⟩
  | rng lo hi => obtain ⟨_, _, _, e⟩ := x; exact ⟨_, e⟩
  | frz ob u => obtain ⟨e, _⟩ := x; exact ⟨_, e⟩
  | tbl ps => exact ⟨_, (show h.get? a = some _ from x)⟩
  | met f y => exact ⟨_, (show h.get? a = some _ from x)⟩
  | ext φ => obtain ⟨_, e, _⟩ := x; exact e

structure Fly (P : Program) (w : World) (outer : List Env) (H H1 : Hp) (h0 B h1 : Heap) : Prop where
  stay : B.StaysIn h1
  ok : HOk P w H1 B
  keep : ∀ b o, h0.get? b = some o → H b = none → b ∉ frs outer → B.get? b = some o
  slot : ∀ b o, h0.get? b = some o → b ∈ frs outer → ∃ sl, h1.get? b = some { o with slots := sl }
  frf : ∀ b ∈ frs outer, H b = none
  free : ∀ b o, h0.get? b = some o → H b = none → H1 b = none
  all : ∀ b o, h0.get? b = some o → b ∉ frs outer → ∃ o', B.get? b = some o'
  tups : ∀ b xs, H b = some (.tup xs) → H1 b = some (.tup xs)
  frzs : ∀ b o u, H b = some (.frz o u) → H1 b = some (.frz o u)
  tbls : ∀ b ps, H b = some (.tbl ps) → ∃ more, H1 b = some (.tbl (ps ++ more))
section
variable {P : Program} {w : World} {outer : List Env} {H H1 : Hp} {h0 B h1 h2 : Heap}
theorem Fly.un (f : Fly P w outer H H1 h0 B h1) : Un (frs outer) [] H H1 h0 h1 :=
  ⟨fun b o e n hb _ => f.stay b o (f.keep b o e n hb), fun b o e _ hb _ => f.slot b o e hb, fun b o e n _ => f.free b o e n, fun b o e _ => by
    by_cases hb : b ∈ frs outer
    · obtain ⟨sl, z⟩ := f.slot b o e hb
      exact ⟨_, z⟩
    · obtain ⟨o', z⟩ := f.all b o e hb
      exact ⟨o', f.stay b o' z⟩, f.tups, f.frzs, f.tbls⟩
theorem Fly.hok (f : Fly P w outer H H1 h0 B h1) : HOk P w H1 h1 := f.ok.kept f.stay
theorem Fly.step (f : Fly P w outer H H1 h0 B h1) (hl : h1.FunFrames B outer) {l : List Env} (n : Noted B l h1 h2) : Fly P w outer H H1 h0 B h2 :=
  ⟨n.stay, f.ok, f.keep, fun b o e hb => by
    obtain ⟨sl, z⟩ := f.slot b o e hb
    obtain ⟨_, o', z1, z2⟩ := hl.mem hb
    rw [z] at z1
    cases z1
    obtain ⟨sl2, z3⟩ := n.up b _ z z2
    exact ⟨sl2, z3⟩, f.frf, f.free, f.all, f.tups, f.frzs, f.tbls⟩
theorem Fly.none (f : Fly P w outer H H1 h0 B h1) {e : Addr} (nb : B.get? e = Option.none) : H1 e = Option.none := by
  cases q : H1 e with
  | none => rfl
  | some u =>
    obtain ⟨ob, z⟩ := (f.ok e u q).obj
    rw [nb] at z
    cases z
end

inductive Chain (h : Heap) (H : Hp) : Value → Prop
  | nil : Chain h H .none
  | cons {c : Addr} {oc : Obj} {ws : Array Value} {cx : Value} : h.get? c = some oc → oc.data = .fields ws → ws[2]? = some cx → H c = none → Chain h H cx → Chain h H (.ref c)
theorem Chain.mono {h h' : Heap} {H H' : Hp} {cx : Value} (x : Chain h H cx) (k : ∀ c oc ws, h.get? c = some oc → oc.data = .fields ws → H c = none → h'.get? c = some oc ∧ H' c = none) : Chain h' H' cx := by
  induction x with
  | nil => exact .nil
  | cons a b c d _ ih => exact .cons (k _ _ _ a b d).1 b c (k _ _ _ a b d).2 ih
noncomputable def CxOk (h : Heap) (H : Hp) (od : Option Addr) (cx : Value) : Prop := (od = none → cx = .none) ∧ Chain h H cx
noncomputable def CxNew (e : Addr) (h : Heap) (H : Hp) (od : Option Addr) (cx : Value) : Prop := ∃ g : Heap, g.get? e = none ∧ g.StaysIn h ∧ CxOk g H od cx
noncomputable def CXE (P : Program) (w : World) : CXT := fun outer H s E e s' =>
  ∃ (a : Addr) (cls : Value) (od : Option Addr) (cx : Value) (H1 : Hp) (B : Heap), e = .ref a ∧ s'.os = s.os ∧ AllBare s'.gens ∧ Fly P w outer H H1 s.heap B s'.heap ∧ B.get? a = none ∧
    s'.heap.FunFrames B outer ∧ TrcAt s'.heap B a cls od cx .none ∧ CxOk B H1 od cx ∧ E cls od H1

section
variable {P : Program} {w : World} {K : PySem.W.Frag} {mg : Str → Option Value} {base : Heap} {N : List Str} {qual : Str} {scope : Scope} {f : Addr} {cd : Value} {A : Around} {outer : List Env} {s0 : Shared} {H0 : Hp} {E' : XK}

theorem passE {E : XK} (hE : ∀ cls od H1, E cls od H1 → E' cls od H1) : Passes (CXE P w) (cxOf (CXE P w) P w K mg base N qual scope f cd A outer s0 H0 E') E := by
  intro pins σ H s e s' I h
  obtain ⟨a, cls, od, cx, H1, B, rfl, os, bare, F, nb, hl, tr, hc, hq⟩ := h
  refine nt_leave (L := s0.heap.objs.size) I.ok.frames hl rfl F.stay nb tr.exc fun h2 n2 t2 => ?_
  have nL : ∀ b o, s0.heap.get? b = some o → b ∉ frs outer → b ∉ frs (envOfC qual scope s0.heap.objs.size f cd :: outer) := fun b o e hb z => by
    rcases List.mem_cons.mp (show b ∈ s0.heap.objs.size :: frs outer from z) with q | q
    · exact absurd (Heap.lt_size e) (by rw [q]; exact Nat.lt_irrefl _)
    · exact hb q
  have nx : ∀ b : Addr, b ∉ (cxOf (CXE P w) P w K mg base N qual scope f cd A outer s0 H0 E').ex := fun b z => absurd (show b ∈ ([] : List Addr) from z) (by simp)
  have F2 := F.step hl n2
  refine ⟨a, cls, od, cx, H1, B, rfl, os.trans I.os, bare, ⟨n2.stay, F.ok, fun b o e n hb => ?_, fun b o e hb => ?_, I.ok.frf, fun b o e n => ?_, fun b o e hb => ?_, fun b xs e => F.tups b xs (I.base.tups b xs e), fun b o u e => F.frzs b o u (I.base.frzs b o u e), fun b ps e => ?_⟩, nb, n2.fun_.2.2, t2, hc, hE _ _ _ hq⟩
  · exact F.keep b o (I.base.keep b o e n hb (nx b)) (I.base.free b o e n (nx b)) (nL b o e hb)
  · obtain ⟨sl, z⟩ := I.base.slot b o e (I.ok.frf b hb) hb (nx b)
    obtain ⟨sl2, z2⟩ := F2.slot b _ z (List.mem_cons_of_mem _ hb)
    exact ⟨sl2, z2⟩
  · obtain ⟨o', z⟩ := I.base.there b o e (nx b)
    exact F.free b o' z (I.base.free b o e n (nx b))
  · obtain ⟨o', z⟩ := I.base.there b o e (nx b)
    exact F.all b o' z (nL b o e hb)
  · obtain ⟨m1, z1⟩ := I.base.tbls b ps e
    obtain ⟨m2, z2⟩ := F.tbls b _ z1
    exact ⟨m1 ++ m2, by rw [z2, Array.append_assoc]⟩

theorem throwE {pins : List (Addr × Obj)} {σ : St} {H : Hp} {s : Shared} {e : Addr} {cls : Value} {od : Option Addr} {cx : Value} (I : Inv (cxOf (CXE P w) P w K mg base N qual scope f cd A outer s0 H0 E') pins σ H s)
    (he : H e = none) (hs : ∀ b o, s0.heap.get? b = some o → b ≠ e) (x : ∀ B, ExcAt s.heap B e cls od cx) (hc : CxNew e s.heap H od cx) (hq : E' cls od H) :
    (cxOf (CXE P w) P w K mg base N qual scope f cd A outer s0 H0 E').xe (.ref e) s := by
  have hin : ∀ env ∈ (envOfC qual scope s0.heap.objs.size f cd :: outer), ∀ b, env.frame = some b → b ∈ e :: frs (envOfC qual scope s0.heap.objs.size f cd :: outer) := fun env z b hb => List.mem_cons_of_mem _ (List.mem_filterMap.mpr ⟨env, z, hb⟩)
  have st : ∀ b, b ∈ frs (envOfC qual scope s0.heap.objs.size f cd :: outer) → H b = none := fun b hb => I.stkFree b hb
  have kB : (PySem.W.hideAll s.heap (e :: frs (envOfC qual scope s0.heap.objs.size f cd :: outer))).StaysIn s.heap := fun b o q => PySem.W.of_hideAll _ q
  have hl : s.heap.FunFrames (PySem.W.hideAll s.heap (e :: frs (envOfC qual scope s0.heap.objs.size f cd :: outer))) (envOfC qual scope s0.heap.objs.size f cd :: outer) := PySem.W.funFrames_hide I.stack hin
  have nb : (PySem.W.hideAll s.heap (e :: frs (envOfC qual scope s0.heap.objs.size f cd :: outer))).get? e = none := PySem.W.hideAll_none _ List.mem_cons_self
  have gt : ∀ b o, s.heap.get? b = some o → b ≠ e → b ∉ frs (envOfC qual scope s0.heap.objs.size f cd :: outer) → (PySem.W.hideAll s.heap (e :: frs (envOfC qual scope s0.heap.objs.size f cd :: outer))).get? b = some o := fun b o q n1 n2 =>
    PySem.W.hideAll_get _ q fun z => (List.mem_cons.mp z).elim n1 n2
  have hc2 : CxOk (PySem.W.hideAll s.heap (e :: frs (envOfC qual scope s0.heap.objs.size f cd :: outer))) H od cx := by
    obtain ⟨g, g1, g2, g3, g4⟩ := hc
    refine ⟨g3, g4.mono fun c oc ws c1 c2 c3 => ⟨gt c oc (g2 c oc c1) (fun z => by rw [z, g1] at c1; cases c1) fun z => ?_, c3⟩⟩
    obtain ⟨_, o', z1, z2⟩ := hl.mem z
    rw [g2 c oc c1] at z1
    cases z1
    exact z2 ws c2
  generalize PySem.W.hideAll s.heap (e :: frs (envOfC qual scope s0.heap.objs.size f cd :: outer)) = B at kB hl nb gt hc2
  have nL : ∀ b o, s0.heap.get? b = some o → b ∉ frs outer → b ≠ e ∧ b ∉ frs (envOfC qual scope s0.heap.objs.size f cd :: outer) := fun b o q hb =>
    ⟨hs b o q, fun z => by
      rcases List.mem_cons.mp (show b ∈ s0.heap.objs.size :: frs outer from z) with z | z
      · exact absurd (Heap.lt_size q) (by rw [z]; exact Nat.lt_irrefl _)
      · exact hb z⟩
  have nx : ∀ b : Addr, b ∉ (cxOf (CXE P w) P w K mg base N qual scope f cd A outer s0 H0 E').ex := fun b z => absurd (show b ∈ ([] : List Addr) from z) (by simp)
  refine nt_leave (L := s0.heap.objs.size) I.ok.frames hl rfl kB nb (x B) fun h2 n2 t2 => ?_
  refine ⟨e, cls, od, cx, H, B, rfl, I.os, I.bare, ⟨n2.stay, fun b u q => ?_, fun b o q n hb => ?_, fun b o q hb => ?_, I.ok.frf, fun b o q n => I.base.free b o q n (nx b), fun b o q hb => ?_, I.base.tups, I.base.frzs, I.base.tbls⟩, nb, n2.fun_.2.2, t2, hc2, hq⟩
  · refine (I.hok b u q).stay (fun c v hcb z => gt c v z ?_ ?_) (fun _ z => z) fun _ _ z => z
    · rintro rfl
      rcases hcb with z | z
      · rw [← z, he] at q; cases q
      · rw [he] at z; cases z
    · intro z1
      have z2 := st c z1
      rcases hcb with z | z
      · rw [← z, z2] at q; cases q
      · rw [z2] at z; cases z
  · obtain ⟨n1, n3⟩ := nL b o q hb
    exact gt b o (I.base.keep b o q n hb (nx b)) n1 n3
  · obtain ⟨sl, z⟩ := I.base.slot b o q (I.ok.frf b hb) hb (nx b)
    obtain ⟨_, o', z1, z2⟩ := hl.mem (List.mem_cons_of_mem _ hb : b ∈ frs (envOfC qual scope s0.heap.objs.size f cd :: outer))
    have z' : s.heap.get? b = some { o with slots := sl } := z
    rw [z'] at z1
    cases z1
    obtain ⟨sl2, z3⟩ := n2.up b _ z z2
    exact ⟨sl2, z3⟩
  · obtain ⟨n1, n3⟩ := nL b o q hb
    obtain ⟨o', z⟩ := I.base.there b o q (nx b)
    exact ⟨o', gt b o' z n1 n3⟩
end
end L2

namespace L2
open PySem PySem.Spec PyProof.Rows

noncomputable abbrev excLine : List Value := [.type "Exception", .type "BaseException", .type "object"]
structure XCls (K : PySem.W.Frag) (C : Addr) (m : Str → Option Value) : Prop where
  ex : ∃ (nm q : Str) (N : Addr) (bs : List Value) (sn : List Str) (sub : List Value) (ab : Bool) (col : Option Bool) (dd : Option Addr) (k0 k1 k2 k3 k5 : Option Value),
    K.lookup C = some (excClassObj nm q C N bs excLine true sn sub ab col dd k0 k1 k2 k3 k5 "Exception.__new__") ∧ ∀ h : Heap, K.In h → h.Ns N m
  kp : PySem.W.keepIn K (.ref C) = true

section
variable {X : Cx} {C : Addr} {m : Str → Option Value}
structure Made (X : Cx) (pins : List (Addr × Obj)) (σ : St) (H : Hp) (C : Addr) (od : Option Addr) (cx : Value) (e : Addr) (s : Shared) : Prop where
  inv : Inv X pins σ H s
  free : H e = none
  new : ∀ b o, X.s_0.heap.get? b = some o → b ≠ e
  exc : ∀ B, ExcAt s.heap B e (.ref C) od cx
noncomputable def Throws (X : Cx) (EX : XK) : Prop := ∀ pins σ H C od cx e s, Made X pins σ H C od cx e s → EX (.ref C) od H → CxNew e s.heap H od cx → X.xe (.ref e) s
theorem throws_cx {P : Program} {w : World} {K : PySem.W.Frag} {mg : Str → Option Value} {base : Heap} {N : List Str} {qual : Str} {scope : Scope} {f : Addr} {cd : Value} {A : Around} {outer : List Env} {s0 : Shared} {H0 : Hp} {E' : XK} :
    Throws (cxOf (CXE P w) P w K mg base N qual scope f cd A outer s0 H0 E') E' := fun pins σ H C od cx e s M hq hc => throwE M.inv M.free M.new M.exc hc hq

theorem Inv.fresh_of {pins : List (Addr × Obj)} {σ : St} {H : Hp} {s : Shared} (I : Inv X pins σ H s) {e : Addr} (n : s.heap.get? e = none) : H e = none := by
  cases q : H e with
  | none => rfl
  | some u =>
    obtain ⟨ob, z⟩ := (I.hok e u q).obj
    rw [n] at z
    cases z
theorem Inv.new_of {pins : List (Addr × Obj)} {σ : St} {H : Hp} {s : Shared} (I : Inv X pins σ H s) (hx : X.ex = []) {e : Addr} (n : s.heap.get? e = none) : ∀ b o, X.s_0.heap.get? b = some o → b ≠ e := fun b o q z => by
  obtain ⟨o', z1⟩ := I.base.there b o q (by rw [hx]; simp)
  rw [z, n] at z1
  cases z1

noncomputable def tThrow (C : Addr) (EX : XK) : TS := fun _ _ H => EX (.ref C) none H
theorem ps_raise0 {EX : XK} {x : Str} {np cpos pos : Pos} (T : XCls X.K C m) (hni : m "__init__" = none) (hT : Throws X EX) (hc : X.calm = true) (hx : X.ex = []) (hg : Gl X x) (hm : X.mg x = some (.ref C)) (hd : (x == ("__debug__" : Str)) = false := by decide) :
    PS X (.Raise (some (.Call (.Name x np) [] [] cpos)) none pos) (tThrow C EX) := by
  intro pins s σ H D I h
  obtain ⟨nm, q, N, bs, sn, sub, ab, col, dd, k0, k1, k2, k3, k5, lk, ns⟩ := T.ex
  refine wpAny_Raise_call_sub (C := C) (nm := nm) (q := q) (N := N) (bs := bs) (bm := excLine) (hdct := true) (sn := sn) (sub := sub) (ab := ab) (col := col) (dd := dd) (k0 := k0) (k1 := k1) (k2 := k2) (k3 := k3) (k5 := k5)
    PySem.F.excBase_Exception (mN := m) (I.ok.hd hc) rfl hni (ld_glob I hg hm ⟨rfl, ?_⟩ hd)
  refine evalArgs_empty ⟨rfl, Nat.zero_le _, I.kIn _ _ lk, ns _ I.kIn, fun h' e hm' => ?_⟩
  obtain ⟨t, z1, z2, z3⟩ := hm'.there
  refine hT pins σ H C none .none e _ ⟨I.kept (t' := s.toks) hm'.keeps, I.fresh_of hm'.new, I.new_of hx hm'.new, fun B => ⟨_, _, z1, rfl, rfl, rfl, rfl, .inl rfl⟩⟩ h ⟨s.heap, hm'.new, hm'.keeps, fun _ => rfl, .nil⟩

end
end L2

namespace L2
open PySem PySem.Spec PyProof.Rows
section
variable {C : Addr} {m : Str → Option Value}
section
variable {prog : Program} {w : World} {A : Around} {E : Value → Shared → Prop} {h : Heap} {g : Array GenState} {d : Drawn} {os : OsState} {t : Nat}
  {nm q : Str} {N x : Addr} {bs : List Value} {sn : List Str} {sub : List Value} {ab : Bool} {col : Option Bool} {dd : Option Addr} {k0 k1 k2 k3 k5 : Option Value} {newId : String} {name : Str} {v : Value} {o : Obj} {Q : Unit → Shared → Prop}
theorem store_exc (hC : h.get? C = some (excClassObj nm q C N bs excLine true sn sub ab col dd k0 k1 k2 k3 k5 newId)) (hn : h.Ns N m) (hns : m "__setattr__" = none) (hna : m name = none)
    (hB : typeLookup (.type "Exception") name = pure none) (hx : h.get? x = some o) (hc : o.cls = .ref C) (hnc : ∀ c, o.data ≠ .cls c) (hdn : o.dict = none)
    (hq : ∀ h' tk', h'.get? x = some { cls := o.cls, dict := some h.objs.size, data := o.data, slots := o.slots } → h'.Ns1 h.objs.size (fun y => if y = name then some v else none) → (∀ b ob, b ≠ x → h.get? b = some ob → h'.get? b = some ob) → Q () ⟨h', g, d, tk', os⟩) :
    (wpAny (model prog w) A (setAttr (.ref x) name v) Q E ⟨h, g, d, t, os⟩) := by
  have b3 := PySem.F.store_Exception.slot.bind (.ref x)
  have pas := PySem.F.store_Exception.passes (.ref x)
  unfold setAttr callSpecial?; unfold specialOf
  repeat (any_goals (first | assumption | (with_reducible refine wpAny_loadPart_at hx ?_; rw [hc]) | (with_reducible refine wpAny_typeLookup_exc hC hn PySem.F.store_Exception.mro PySem.F.store_Exception.slot.lookup ?_; rw [hns]) | wp_step))
  refine codeAny_call_builtin (id := "object.__setattr__") (b := Builtin.«object.__setattr__») PySem.F.store_Exception.slot.plain PySem.F.store_Exception.entry ?_
  refine wpAny_check_sa (sa := "object.__setattr__") PySem.F.store_Exception hC hx hc ?_
  show wpAny _ _ (Builtin.«object.__setattr__» _) _ _ _
  (unfold Builtin.«object.__setattr__»)
  repeat (first | rw [refuse_eq] | (rw [refuseLoop_ref, pas]) | (with_reducible refine wpAny_loadPart_at hx ?_; rw [hc]) | with_reducible refine wpAny_mroOf_exc hC ?_ | (with_reducible refine wpAny_typeLookup_exc hC hn PySem.F.store_Exception.mro hB ?_; rw [hna]) | wp_step)
  rw [hdn, if_neg (show ¬ (!true || !typeHasDict (Value.ref C)) = true from by simp [typeHasDict])]
  split
  · rename_i z
    cases z
  split
  · rename_i c z
    exact absurd z (hnc c)
  · have x1 : (h.push { cls := .type "dict", data := .dict #[] }).get? x = some o := Heap.get?_push_of_some _ hx
    have xs : x ≠ h.objs.size := Nat.ne_of_lt (Heap.lt_size hx)
    refine wpAny_bind (wpAny_alloc' (wpAny_bind (wpAny_update' x1 (wpAny_pure ?_))))
    have gd : ((h.push { cls := .type "dict", data := .dict #[] }).update x fun o => { cls := o.cls, dict := some h.objs.size, data := o.data, slots := o.slots }).get? h.objs.size = some { cls := .type "dict", data := .dict #[] } :=
      (Heap.get?_update_ne _ _ _ _ xs.symm).trans (Heap.get?_push_at rfl rfl)
    have nd : ((h.push { cls := .type "dict", data := .dict #[] }).update x fun o => { cls := o.cls, dict := some h.objs.size, data := o.data, slots := o.slots }).Ns h.objs.size (fun _ => none) :=
      ⟨_, #[], _, gd, rfl, fun e he => absurd he (by simp), fun _ => rfl⟩
    show wpAny _ _ (Builtin.ObjectAttr.storeInDict h.objs.size (.str name t) name v) _ _ _
    unfold Builtin.ObjectAttr.storeInDict; unfold Builtin.ObjectAttr.newKeyGuard
    refine wpAny_bind (wpAny_pure (wpAny_bind (wpAny_nsSet1 (Heap.Ns1.of_empty nd) fun h' n' hs => ?_)))
    obtain ⟨oD, esD, epD, hoD, hdD, hcD⟩ := n'.count (Within.cons name v Within.nil)
    (refine wpAny_bind (wpAny_lookBehind hoD (by rw [hdD]; exact pastItsLine_dict (Nat.le_trans hcD (by rw [List.length_cons, List.length_nil, sizeLine_eq]; omega))) ?_))
    wp_walk
    refine hq h' _ ((hs.2 x xs).trans (Heap.get?_update_self _ x1 ?_)) n' fun b ob nb hb => (hs.2 b (Nat.ne_of_lt (Heap.lt_size hb))).trans ((Heap.get?_update_ne _ _ _ _ nb).trans (Heap.get?_push_of_some _ hb))
    have fr := (Heap.get?_some_iff.mp hx).2
    (obtain ⟨oc, od, odt, osl⟩ := o)
    cases odt <;> first | rfl | exact fr
end
end
end L2

namespace L2
open PySem PySem.Spec PyProof.Rows

theorem entry_unchain : entryFor table "proto.unchain" = some Builtin.«proto.unchain» := entryFor_of_tree (by kernel_rfl)

section
variable {prog : Program} {w : World} {A : Around} {E : Value → Shared → Prop} {s : Shared} {env : Env} {C : Addr} {nm qn : Str} {N : Addr} {bs : List Value} {sn : List Str} {sub : List Value} {ab : Bool} {col : Option Bool} {dd : Option Addr} {k0 k1 k2 k3 k5 : Option Value} {newId : String}
inductive Path (h : Heap) : Value → Value → Prop
  | refl (v : Value) : Path h v v
  | step {c : Addr} {oc : Obj} {ws : Array Value} {y v : Value} : h.get? c = some oc → oc.data = .fields ws → ws[2]? = some y → Path h y v → Path h (.ref c) v
theorem Path.next {h : Heap} {sl : Value} {o : Addr} {oo : Obj} {ws : Array Value} {y v : Value} (p : Path h sl v) (e : v = .ref o) (a : h.get? o = some oo) (b : oo.data = .fields ws) (c : ws[2]? = some y) :
    ∃ c' oc ws' y', sl = .ref c' ∧ h.get? c' = some oc ∧ oc.data = .fields ws' ∧ ws'[2]? = some y' ∧ Path h y' y := by
  induction p with
  | refl v => exact ⟨o, oo, ws, y, e, a, b, c, .refl _⟩
  | step a1 b1 c1 p ih =>
    obtain ⟨c', oc, ws', y', rfl, a2, b2, c2, p2⟩ := ih e
    exact ⟨_, _, _, _, rfl, a1, b1, c1, .step a2 b2 c2 p2⟩
theorem plain_unchain : plainId "proto.unchain" = true := by decide +kernel
theorem unchain_ok {g : Heap} {H : Hp} {e : Addr} {cx : Value} (ge : g.get? e = none) (gs : g.StaysIn s.heap) (x : Chain g H cx) : ∀ {A : Around} {R : Result → Shared → Prop} {o : Addr} {oo : Obj} {ws : Array Value} {sl : Value} {tg : Bool}, s.heap.get? o = some oo → oo.data = .fields ws → ws[2]? = some cx → Path s.heap sl (.ref o) → R (.ok (.ret .none)) s →
    codeAny (model prog w) A (.builtin "proto.unchain" ⟨[.ref e, .ref o, sl, .bool tg], []⟩) R s := by
  induction x with
  | nil =>
    intro A R o oo ws sl tg a b c p hR
    refine codeAny_builtin entry_unchain ?_
    unfold Builtin.«proto.unchain»
    dsimp only
    refine wpAny_bind (wpAny_field a b c ?_)
    rw [if_pos (show (Value.none == Value.none) = true from by decide)]
    exact wpAny_pure hR
  | @cons c1 oc1 ws1 cx1 a1 b1 d1 _ _ ih =>
    intro A R o oo ws sl tg a b c p hR
    have ne : c1 ≠ e := fun z => by rw [z, ge] at a1; cases a1
    refine codeAny_builtin entry_unchain ?_
    rw [Around.under_plainId plain_unchain _]
    unfold Builtin.«proto.unchain»
    dsimp only
    refine wpAny_bind (wpAny_field a b c ?_)
    rw [if_neg (show ¬ (Value.ref c1 == Value.none) = true from by simp), if_neg (show ¬ (Value.ref c1 == Value.ref e) = true from by simpa using ne)]
    by_cases hs : (Value.ref c1 == sl) = true
    · rw [if_pos hs]
      exact wpAny_bind (wpAny_rule (wpAny_pure hR))
    · rw [if_neg hs]
      obtain ⟨c', oc, ws', y', rfl, a2, b2, c2, p2⟩ := p.next rfl a b c
      cases tg with
      | true =>
        refine wpAny_bind ?_
        refine wpAny_field a2 b2 c2 ?_
        exact wpAny_pure ⟨plainId_quiet plain_unchain _, ih (gs _ _ a1) b1 d1 p2 hR⟩
      | false =>
        refine wpAny_bind ?_
        refine wpAny_pure ?_
        exact wpAny_pure ⟨plainId_quiet plain_unchain _, ih (gs _ _ a1) b1 d1 (.step a2 b2 c2 p2) hR⟩
theorem raise_new {α : Type} {e : Addr} {o : Obj} {vs : Array Value} {Q : α → Shared → Prop} (q0 : s.heap.get? e = some o) (q3 : o.data = .fields vs) (hz : 2 < vs.size)
    (h : (A.handled = none ∧ E (.ref e) s) ∨ ∃ hh oh ws cx g, A.handled = some (.ref hh) ∧ hh ≠ e ∧ s.heap.get? hh = some oh ∧ oh.data = .fields ws ∧ ws[2]? = some cx ∧ g.get? e = none ∧ g.StaysIn s.heap ∧ Chain g (fun _ => none) cx ∧ E (.ref e) { s with heap := s.heap.update e (Obj.mapFields (·.setIfInBounds 2 (.ref hh))) }) :
    wpAny (model prog w) A (raiseNew (.ref e) : Sem α) Q E s := by
  rcases h with ⟨hn, hE⟩ | ⟨hh, oh, ws, cx, gg, hn, ne, z0, z1, z2, z3, z4, z5, hE⟩
  · exact wpAny_raiseNew_none hn hE
  · unfold raiseNew
    refine wpAny_bind (wpAny_handled ?_)
    rw [hn]
    dsimp only
    have nb : (Value.ref hh != Value.ref e) = true := by simp [ne]
    rw [if_pos nb]
    refine wpAny_bind (wpAny_holding (wpAny_runValue (unchain_ok z3 z4 z5 z0 z1 z2 (.refl _) ?_)))
    show wpAny _ _ (updateField e 2 (.ref hh) >>= _) _ _ _
    unfold updateField
    refine wpAny_bind (wpAny_bind (wpAny_load q0 ?_))
    rw [q3]
    dsimp only
    rw [if_pos hz]
    exact wpAny_update q0 (wpAny_throw hE)

theorem raise_stmt {x : Sem Value} {Q : Flow → Shared → Prop}
    (h : wpAny (model prog w) A x (fun v s1 => ∃ e o vs, v = .ref e ∧ s1.heap.get? C = some (excClassObj nm qn C N bs excLine true sn sub ab col dd k0 k1 k2 k3 k5 newId) ∧ s1.heap.get? e = some o ∧ o.cls = .ref C ∧ o.data = .fields vs ∧ vs[1]? = some .none ∧ 2 < vs.size ∧
      ((A.handled = none ∧ E (.ref e) s1) ∨ ∃ hh oh ws cx g, A.handled = some (.ref hh) ∧ hh ≠ e ∧ s1.heap.get? hh = some oh ∧ oh.data = .fields ws ∧ ws[2]? = some cx ∧ g.get? e = none ∧ g.StaysIn s1.heap ∧ Chain g (fun _ => none) cx ∧ E (.ref e) { s1 with heap := s1.heap.update e (Obj.mapFields (·.setIfInBounds 2 (.ref hh))) })) E s) :
    wpAny (model prog w) A (raiseStmt env (some x) none) Q E s := by
  have hcB : (Value.ref C :: excLine).contains (.type "BaseException") = true := by simp [excLine]
  unfold raiseStmt
  refine wpAny_bind (wpAny_mono h (fun v s1 z => ?_) fun _ _ y => y)
  obtain ⟨e, o, vs, rfl, hC, q0, q1, q3, q5, hz, hE⟩ := z
  obtain ⟨hp, g, d, tk, os⟩ := s1
  repeat (first | (with_reducible refine wpAny_loadPart_at q0 ?_; rw [q1]) | with_reducible refine wpAny_loadPart_at hC ?_ | (with_reducible refine wpAny_isSubtype_exc hC ?_; rw [hcB]) | wp_step)
  rw [q3]
  refine wpAny_pure ?_
  rw [q5]
  refine wpAny_pure ?_
  rw [if_neg (show ¬ (Value.none != Value.none) = true from by decide)]
  exact wpAny_pure (raise_new q0 q3 hz hE)
end

section
variable {P : Program} {w : World} {K : PySem.W.Frag} {C : Addr} {m : Str → Option Value}
theorem init_exc {A : Around} {R : Result → Shared → Prop} {h : Heap} {g : Array GenState} {d : Drawn} {t : Nat} {os : OsState} {fI e : Addr} {fd : FuncData} {qual attr : Str} {st : Stmt} {p1 p2 p3 p4 : Pos} {o : Obj} {u : Value}
    {nm q : Str} {N : Addr} {bs : List Value} {sn : List Str} {sub : List Value} {ab : Bool} {col : Option Bool} {dd : Option Addr} {k0 k1 k2 k3 k5 : Option Value} {newId : String}
    (F : Fun K "__init__" qual st fI fd) (S : FnScope ["self", attr] ["self", attr] (defScope st)) (hb : Binds K fd ["self", attr] []) (hbd : defBody st = [.Assign [.Attribute (.Name "self" p1) attr p2] (.Name attr p3) p4])
    (l1 : (defScope st).names.lookup ("self" : Str) = some .local) (l2 : (defScope st).names.lookup attr = some .local) (hda : (attr == ("__debug__" : Str)) = false)
    (hsw : ∀ env, swapsWith (.Name attr p3) (some (.Attribute (.Name "self" p1) attr p2)) p4.line env = pure false)
    (hroom : A.depth < recursionLimit) (KX : K.In h) (lim : h.NoLimit) (hC : h.get? C = some (excClassObj nm q C N bs excLine true sn sub ab col dd k0 k1 k2 k3 k5 newId)) (hn : h.Ns N m) (hns : m "__setattr__" = none) (hna : m attr = none)
    (hB : typeLookup (.type "Exception") attr = pure none) (he : h.get? e = some o) (hc : o.cls = .ref C) (hnc : ∀ c, o.data ≠ .cls c) (hdn : o.dict = none)
    (hq : ∀ h' tk dx, h.get? dx = none → h'.get? e = some { cls := o.cls, dict := some dx, data := o.data, slots := o.slots } → h'.Ns1 dx (fun y => if y = attr then some u else none) → (∀ b ob, b ≠ e → h.get? b = some ob → h'.get? b = some ob) → R (.ok (.ret .none)) ⟨h', g, d, tk, os⟩) :
    codeAny (model P w) A (.call (.ref fI) ⟨[.ref e, u], []⟩) R ⟨h, g, d, t, os⟩ := by
  obtain ⟨oc, od, kV, doc, pm, an, cdv, ct, osl, rfl, lk, hcd⟩ := F.ex
  have bt := hb ⟨h, g, d, t, os⟩ [.ref e, u] KX rfl
  have hkind : ∀ y ∈ (["self", attr] : List Str).zip ([Value.ref e, u] ++ []), (defScope st).names.lookup y.1 = some .local ∨ ((defScope st).names.lookup y.1 = some .cell ∧ ((cellsFrom (h.objs.size + 1) (defScope st).names []).lookup y.1).isSome = true) := fun y hy => by
    rcases List.mem_cons.mp (show y ∈ [(("self" : Str), Value.ref e), (attr, u)] from hy) with z | z
    · subst z; exact .inl l1
    · rcases List.mem_cons.mp z with z | z
      · subst z; exact .inl l2
      · cases z
  refine codeAny_call_function hroom (KX _ _ lk) rfl S.co S.gen rfl (PySem.W.codeRec_of KX hcd) (bt _ _ _ _ ?_)
  refine wpAny_newFunctionEnv_cells S.kind hkind fun env henv s1 x => ?_
  subst henv
  refine ⟨lim.keeps x.toInCall.keep, codeAny_func ?_⟩
  obtain ⟨h1, tk, rfl, hk⟩ := x.done
  have ns1 := x.toInCall.ns
  show wpAny _ _ (execs (defBody st) _) _ _ _
  rw [hbd]
  refine wpAny_execs_cons (plainObj_wpAny_Assign_Attribute ?_ (hsw _))
  refine wpAny_Name (wpAny_loadName_local S.kind l2 ns1 (bindL_get (i := 1) S.nd rfl rfl l2) ?_) hda
  refine wpAny_Name (wpAny_loadName_local S.kind l1 ns1 (bindL_get (i := 0) S.nd rfl rfl l1) ?_) (by decide)
  refine store_exc (hk _ _ hC) (hn.keeps hk) hns hna hB (hk _ _ he) hc hnc hdn fun h' tk' z1 z2 z3 => ?_
  refine wpAny_execs_nil ?_
  exact hq h' tk' h1.objs.size (Heap.get?_none_of_le (Nat.le_of_lt ns1.lt)) z1 z2 fun b ob nb hb => z3 b ob nb (hk b ob hb)
end

section
variable {X : Cx} {C : Addr} {m : Str → Option Value}
theorem Inv.laid2 {pins : List (Addr × Obj)} {σ : St} {H : Hp} {s : Shared} {h' : Heap} {a : Addr} {o : HO} {t' : Nat} (I : Inv X pins σ H s) (k : ∀ b u, s.heap.get? b = some u → h'.get? b = some u) (hp : s.heap.get? a = none) (new : ObjOk X.prog X.w (upd H a o) h' a o) :
    Inv X pins σ (upd H a o) { s with heap := h', toks := t' } := by
  have hn := I.fresh_of hp
  have ne : ∀ {b : Addr} {u : HO}, H b = some u → b ≠ a := fun q => ne_of_none q hn
  refine I.un ⟨fun b u q _ _ _ => k b u q, fun b u q _ _ _ => ⟨u.slots, k b u q⟩, fun b u q n _ => ?_, fun b u q _ => ⟨u, k b u q⟩, fun b xs q => by rw [upd_ne (ne q)]; exact q, fun b u v q => by rw [upd_ne (ne q)]; exact q, fun b ps q => ⟨#[], by rw [upd_ne (ne q), q]; simp⟩⟩ fun b u q => ?_
  · rw [upd_ne fun z => by rw [z, hp] at q; cases q]
    exact n
  · by_cases hb : b = a
    · subst hb
      rw [upd_same] at q
      cases q
      exact new
    · rw [upd_ne hb] at q
      exact (I.hok b u q).stay (fun c v _ z => k c v z) (fun c z => by rw [upd_ne (ne z)]; exact z) fun c xs z => by rw [upd_ne (ne z)]; exact z

structure XInit (K : PySem.W.Frag) (m : Str → Option Value) (attr : Str) : Prop where
  ex : ∃ (fI : Addr) (fd : FuncData) (qual : Str) (st : Stmt) (p1 p2 p3 p4 : Pos), m "__init__" = some (.ref fI) ∧ (∀ h : Heap, K.In h → ∃ oI, h.get? fI = some oI ∧ oI.cls = .type "function") ∧ Fun K "__init__" qual st fI fd ∧ FnScope ["self", attr] ["self", attr] (defScope st) ∧
    Binds K fd ["self", attr] [] ∧ defBody st = [.Assign [.Attribute (.Name "self" p1) attr p2] (.Name attr p3) p4] ∧ (defScope st).names.lookup ("self" : Str) = some .local ∧ (defScope st).names.lookup attr = some .local ∧
    (attr == ("__debug__" : Str)) = false ∧ (∀ env, swapsWith (.Name attr p3) (some (.Attribute (.Name "self" p1) attr p2)) p4.line env = pure false)
  sa : m "__setattr__" = none
  na : m attr = none
  lk : typeLookup (.type "Exception") attr = pure none

inductive ChainP (ps : List (Addr × Obj)) : Value → Prop
  | nil : ChainP ps .none
  | cons {c : Addr} {oc : Obj} {ws : Array Value} {cx : Value} : (c, oc) ∈ ps → oc.data = .fields ws → ws[2]? = some cx → ChainP ps cx → ChainP ps (.ref c)
theorem ChainP.chain {pins : List (Addr × Obj)} {σ : St} {H : Hp} {s : Shared} {cx : Value} (I : Inv X pins σ H s) (x : ChainP X.pn cx) : Chain s.heap H cx := by
  induction x with
  | nil => exact .nil
  | cons a b c _ ih =>
    obtain ⟨w3, w4, _⟩ := I.pin _ (List.mem_append_left _ a)
    exact .cons w3 b c w4 ih
noncomputable def tThrow1 (C : Addr) (attr : Str) (EX : XK) (ta : TA) : TS := fun _ σ H => ta σ H fun vs H1 => ∃ n : Int, vs = [.int n] ∧ ∀ dx, H1 dx = none → EX (.ref C) (some dx) (upd H1 dx (.xd [(attr, .int n)]))
theorem ps_raise1 {EX : XK} {x attr : Str} {np cpos pos : Pos} {e : Expr} {t : TA} (T : XCls X.K C m) (TI : XInit X.K m attr) (hT : Throws X EX) (hx : X.ex = []) (hroom : X.A.depth + 1 < recursionLimit)
    (hh : X.A.handled = none ∨ ∃ hh oh ws cx, X.A.handled = some (.ref hh) ∧ (hh, oh) ∈ X.pn ∧ oh.data = .fields ws ∧ ws[2]? = some cx ∧ ChainP X.pn cx) (hg : Gl X x) (hm : X.mg x = some (.ref C)) (ha : PA X [e] t) (hd : (x == ("__debug__" : Str)) = false := by decide)
    (he : starEach [e] X.env = (false, eval e X.env) :: starEach [] X.env := by rfl) (hpl : (backTo cpos (starEach [] X.env)).any (·.1) = false := by rfl) :
    PS X (.Raise (some (.Call (.Name x np) [e] [] cpos)) none pos) (tThrow1 C attr EX t) := by
  intro pins s σ H D I h
  obtain ⟨nm, q, N, bs, sn, sub, ab, col, dd, k0, k1, k2, k3, k5, lk, ns⟩ := T.ex
  obtain ⟨fI, fd, qual, st, p1, p2, p3, p4, mi, fo, FF, SS, bb, hbd, l1, l2, hda, hsw⟩ := TI.ex
  rw [arm_exec_Raise]
  refine wpAny_bind (wpAny_standAt ?_)
  refine raise_stmt (C := C) (nm := nm) (qn := q) (N := N) (bs := bs) (sn := sn) (sub := sub) (ab := ab) (col := col) (dd := dd) (k0 := k0) (k1 := k1) (k2 := k2) (k3 := k3) (k5 := k5) (newId := "Exception.__new__") ?_
  refine wpAny_bind (wpAny_mono (Q := fun v s1 => ∃ e o vs, v = .ref e ∧ s1.heap.get? C = some (excClassObj nm q C N bs excLine true sn sub ab col dd k0 k1 k2 k3 k5 "Exception.__new__") ∧ s1.heap.get? e = some o ∧ o.cls = .ref C ∧ o.data = .fields vs ∧ vs[1]? = some .none ∧ 2 < vs.size ∧
      ((X.A.handled = none ∧ X.xe (.ref e) s1) ∨ ∃ hh oh ws cx g, X.A.handled = some (.ref hh) ∧ hh ≠ e ∧ s1.heap.get? hh = some oh ∧ oh.data = .fields ws ∧ ws[2]? = some cx ∧ g.get? e = none ∧ g.StaysIn s1.heap ∧ Chain g (fun _ => none) cx ∧ X.xe (.ref e) { s1 with heap := s1.heap.update e (Obj.mapFields (·.setIfInBounds 2 (.ref hh))) })) (E := X.xe) ?_ (fun v s1 z => wpAny_bind (wpAny_standAt (wpAny_pure z))) fun _ _ y => y)
  refine wpAny_Call_Name_kw (ld_glob I hg hm ?_ hd)
  refine PySem.W.callWith_K (h₀ := X.base) I.ok.mod.kin T.kp (thn (ha cpos pins s σ H _ I h) fun us s1 ⟨vs, H1, I1, r, n, ev, q1⟩ => ⟨I1.kIn, ?_⟩) he hpl
  subst ev
  obtain ⟨u, rfl, ru⟩ := vals1 r
  obtain ⟨tk0, rfl⟩ := ru
  obtain ⟨oI, ho, hoc⟩ := fo _ I1.kIn
  obtain ⟨hp, g, d, tk, os⟩ := s1
  refine wpAny_call_exc_init PySem.F.excBase_Exception (I1.kIn _ _ lk) (ns _ I1.kIn) mi ho hoc (fun h' e hme => ?_) (by show 1 ≤ sizeLine; decide)
  obtain ⟨tt, z1, z2, z3⟩ := hme.there
  have KX : X.K.In h' := I1.kIn.keeps hme.keeps
  refine wpAny_call (init_exc (C := C) (m := m) FF SS bb hbd l1 l2 hda hsw (by rw [make_depth]; exact hroom) KX (I1.nolimit.keeps hme.keeps) (KX _ _ lk) (ns _ KX) TI.sa TI.na TI.lk z1 rfl (fun c z => by cases z) rfl fun h2 tk2 dx y1 y2 y3 y4 => ⟨rfl, ?_⟩)
  have ne : ∀ b ob, hp.get? b = some ob → b ≠ e := fun b ob q z => by rw [z, hme.new] at q; cases q
  have kp : ∀ b ob, hp.get? b = some ob → h2.get? b = some ob := fun b ob q => y4 b ob (ne b ob q) (hme.keeps b ob q)
  have nd : hp.get? dx = none := by
    cases q : hp.get? dx with
    | none => rfl
    | some ob => have z := hme.keeps _ _ q; rw [y1] at z; cases z
  have ndx : H1 dx = none := I1.fresh_of nd
  have ned : e ≠ dx := fun z => by rw [z, y1] at z1; cases z1
  have fin : ∀ (h3 : Heap) (cx : Value), (∀ b ob, b ≠ e → h2.get? b = some ob → h3.get? b = some ob) → (∀ B, ExcAt h3 B e (.ref C) (some dx) cx) → Chain hp H1 cx → X.xe (.ref e) ⟨h3, g, d, tk2, os⟩ := fun h3 cx k3 ex3 ch3 => by
    have new : ObjOk X.prog X.w (upd H1 dx (.xd [(attr, .int n)])) h3 dx (.xd [(attr, .int n)]) := by
      obtain ⟨od, es, ep, w1, w2⟩ := y3
      refine ⟨_, ⟨od, es, ep, k3 dx od (Ne.symm ned) w1, w2⟩, fun f => ?_⟩
      by_cases hf : f = attr
      · subst hf
        rw [if_pos rfl]
        simp [List.lookup]
        exact ⟨_, rfl⟩
      · rw [if_neg hf]
        have hbf : (f == attr) = false := beq_eq_false_iff_ne.mpr hf
        have : ([(attr, V.int n)] : List (Str × V)).lookup f = none := by simp [List.lookup, hbf]
        rw [this]
        trivial
    refine hT pins σ (upd H1 dx (.xd [(attr, .int n)])) C (some dx) cx e _ ⟨I1.laid2 (t' := tk2) (fun b ob q => k3 b ob (ne b ob q) (kp b ob q)) nd new, ?_, I1.new_of hx hme.new, ex3⟩ (q1 dx ndx) ⟨hp, hme.new, fun b ob q => k3 b ob (ne b ob q) (kp b ob q), ⟨fun (z : (some dx : Option Addr) = none) => (nomatch z), ch3.mono fun c oc ws c1 _ c3 => ⟨c1, (upd_ne fun (z : c = dx) => by rw [z, nd] at c1; cases c1).trans c3⟩⟩⟩
    rw [upd_ne ned]
    exact I1.fresh_of hme.new
  refine ⟨e, _, _, rfl, kp _ _ (I1.kIn _ _ lk), y2, rfl, rfl, rfl, (by show 2 < 6; decide), ?_⟩
  rcases hh with hh | ⟨ah, oh, ws, cx, hh, hmem, w1, w2, wc⟩
  · exact .inl ⟨hh, fin h2 .none (fun _ _ _ q => q) (fun B => ⟨_, _, y2, rfl, rfl, rfl, rfl, .inl rfl⟩) .nil⟩
  · obtain ⟨w3, w5, _⟩ := I1.pin (ah, oh) (List.mem_append_left _ hmem)
    have w4 := kp _ _ w3
    have wd : Chain hp H1 cx := wc.chain I1
    refine .inr ⟨ah, oh, ws, cx, hp, hh, ne _ _ w3, w4, w1, w2, hme.new, kp, wd.mono fun c oc ws c1 _ _ => ⟨c1, rfl⟩, fin _ (.ref ah) (fun b ob nb q => by rw [Heap.get?_update_other _ _ (Ne.symm nb)]; exact q) (fun B => ?_) (.cons w3 w1 w2 w5 wd)⟩
    exact ⟨_, _, Heap.get?_update_self _ y2 (Obj.isFreed_of_fields (Obj.data_mapFields rfl _)), Obj.cls_mapFields _ _, dict_mapF _ _, Obj.data_mapFields rfl _, rfl, .inl rfl⟩
end
end L2

namespace L2
open PySem PySem.Spec PyProof.Rows

noncomputable abbrev Cx.hnd (X : Cx) (a : Addr) (oe : Obj) : Cx := { X with A := X.A.mark (some (.ref a)), calm := false, pn := (a, oe) :: X.pn, xe := notedBy (model X.prog X.w) (X.A.mark (some (.ref a))) X.env (cameBackBy (model X.prog X.w) X.A X.env X.xe) }
section
variable {X : Cx} {pins : List (Addr × Obj)} {σ : St} {H : Hp} {s : Shared} {a : Addr} {oe : Obj}
theorem Inv.hnd (I : Inv X pins σ H s) (e : s.heap.get? a = some oe) (n : H a = none) (nl : a ≠ X.env.locals) (nf : a ∉ X.fs) (nd : ∀ v, oe.data ≠ .cell v) : Inv (X.hnd a oe) pins σ H s :=
  ⟨⟨I.ok.mod, I.ok.kind, I.ok.glob, I.ok.blt, I.ok.above, I.ok.inj, I.ok.has, I.ok.cab, fun z => absurd z Bool.false_ne_true, I.ok.frames, I.ok.stk, I.ok.exf, I.ok.bs, I.ok.bsz, I.ok.noex, I.ok.exfs, I.ok.funs, I.ok.frf⟩,
    I.os, I.bare, I.base, I.loc, I.cell, I.free, I.freeC, fun p hp => by
      rcases List.mem_cons.mp (show p ∈ (a, oe) :: (X.pn ++ pins) from hp) with z | z
      · subst z; exact ⟨e, n, nl, nf, nd⟩
      · exact I.pin p z, I.hok, I.len⟩
theorem Inv.unhnd (hd : X.calm = true → X.A.handled = none) (I : Inv (X.hnd a oe) pins σ H s) : Inv X pins σ H s :=
  ⟨⟨I.ok.mod, I.ok.kind, I.ok.glob, I.ok.blt, I.ok.above, I.ok.inj, I.ok.has, I.ok.cab, hd, I.ok.frames, I.ok.stk, I.ok.exf, I.ok.bs, I.ok.bsz, I.ok.noex, I.ok.exfs, I.ok.funs, I.ok.frf⟩,
    I.os, I.bare, I.base, I.loc, I.cell, I.free, I.freeC, fun p hp => I.pin p (show p ∈ (a, oe) :: (X.pn ++ pins) from List.mem_cons_of_mem _ hp), I.hok, I.len⟩
theorem SP.unhnd {D : Ends} {f : Flow} (hd : X.calm = true → X.A.handled = none) (h : SP (X.hnd a oe) pins D f s) : SP X pins D f s := by
  cases f with
  | next => obtain ⟨σ', H', I, q⟩ := h; exact ⟨σ', H', I.unhnd hd, q⟩
  | brk => obtain ⟨σ', H', I, q⟩ := h; exact ⟨σ', H', I.unhnd hd, q⟩
  | cont => obtain ⟨σ', H', I, q⟩ := h; exact ⟨σ', H', I.unhnd hd, q⟩
  | ret u => obtain ⟨v, σ', H', I, r, q⟩ := h; exact ⟨v, σ', H', I.unhnd hd, r, q⟩
theorem throws_hnd {EX : XK} (hT : Throws X EX) (hd : X.calm = true → X.A.handled = none) (hp : PassesOwnAt (model X.prog X.w) (X.A.mark (some (.ref a))) X.A X.env X.xe) : Throws (X.hnd a oe) EX := fun pins σ H C od cx e s M hq hc =>
  hp _ _ (hT pins σ H C od cx e s ⟨M.inv.unhnd hd, M.free, M.new, M.exc⟩ hq hc)

theorem Inv.lost {h' : Heap} {m' : Str → Option Value} {t' : Nat} (I : Inv X pins σ H s) (hn : h'.Ns X.env.locals m') (sb : Heap.SameBut X.env.locals s.heap h') : Inv X pins (List.replicate X.N.length none) H { s with heap := h', toks := t' } := by
  have lt : ∀ b o, X.s_0.heap.get? b = some o → b ≠ X.env.locals := fun b o e => Nat.ne_of_lt (Nat.lt_of_lt_of_le (Heap.lt_size e) I.ok.above)
  refine ⟨I.ok, I.os, I.bare, ⟨fun b o e n hb hx => (sb.2 b (lt b o e)).trans (I.base.keep b o e n hb hx), fun b o e n hb hx => ?_, I.base.free, fun b o e hx => ?_, I.base.tups, I.base.frzs, I.base.tbls⟩, ⟨m', hn, fun i x v _ e2 _ => ?_⟩, fun x c e => ?_, I.free, I.freeC, fun p hp => ?_, fun b u e => ?_, by simp⟩
  · obtain ⟨sl, z⟩ := I.base.slot b o e n hb hx
    exact ⟨sl, (sb.2 b (lt b o e)).trans z⟩
  · obtain ⟨o', z⟩ := I.base.there b o e hx
    exact ⟨o', (sb.2 b (lt b o e)).trans z⟩
  · rw [List.getElem?_replicate] at e2
    split at e2 <;> cases e2
  · obtain ⟨v, z⟩ := I.cell x c e
    exact ⟨v, z.sameBut sb (I.cne x c e)⟩
  · obtain ⟨e, n, ne, nf, d⟩ := I.pin p hp
    exact ⟨(sb.2 p.1 ne).trans e, n, ne, nf, d⟩
  · refine (I.hok b u e).stay (fun c v hc z => (sb.2 c fun y => ?_).trans z) (fun _ z => z) fun _ _ z => z
    rcases hc with q | q
    · rw [← q, y, I.free] at e; cases e
    · rw [y, I.free] at q; cases q

structure Caught (C : Addr) (od : Option Addr) (oe : Obj) : Prop where
  cls : oe.cls = .ref C
  dict : oe.dict = od
  recd : ∃ vs, oe.data = .fields vs ∧ (od = none → vs[2]? = some .none)

section
variable {C : Addr} {m : Str → Option Value} {x : Str} {np hpos : Pos} {b0 : Stmt} {suite : List Stmt} {rest : List ExceptHandler} {Eb : XK} {e : Value} {s1 : Shared} {Q : Flow → Shared → Prop} {H0 : Hp}
theorem inv_at {a : Addr} {od : Option Addr} {cx fl : Value} {H1 : Hp} {B : Heap} {s3 : Shared} (I : Inv X pins σ H0 s) (F : Fly X.prog X.w X.stack H0 H1 s.heap B s3.heap) (os : s3.os = s.os) (bare : AllBare s3.gens) (nb : B.get? a = none) (hl : s3.heap.FunFrames B X.stack) (hst : X.stack = X.env :: X.outer) (hfm : X.env.frame = some X.env.locals)
    (tr : TrcAt s3.heap B a (.ref C) od cx fl) (hc : CxOk B H1 od cx) : ∃ oe, Inv (X.hnd a oe) pins σ H1 s3 ∧ Caught C od oe ∧ s3.heap.get? a = some oe := by
  obtain ⟨o, vs, T, oT, ts, q0, q1, q2, q3, q4, q5, _⟩ := tr
  have I3 : Inv X pins σ H1 s3 := I.call' (ch := []) os F.un F.hok bare fun b z => absurd z (by simp)
  have nf : a ∉ frs X.stack := fun z => by
    obtain ⟨_, o', z1, z2⟩ := hl.mem z
    rw [q0] at z1
    cases z1
    exact z2 vs q3
  rw [hst] at nf
  have nf2 : a ∉ X.env.locals :: frs X.outer := by
    have e : frs (X.env :: X.outer) = X.env.locals :: frs X.outer := by unfold frs; rw [List.filterMap_cons, hfm]
    rw [← e]; exact nf
  refine ⟨o, I3.hnd q0 (F.none nb) (fun z => nf2 (by rw [z]; exact List.mem_cons_self)) (fun z => nf2 (List.mem_cons_of_mem _ z)) (fun v z => by rw [q3] at z; cases z), ⟨q1, q2, vs, q3, fun z => by rw [q4, hc.1 z]⟩, q0⟩

end
end

section
variable {X : Cx} {CX : CXT} {k : Nat} {f : Addr} {fd : FuncData} {ps : List Str} {sp : Sp} {E : XK} {x : Str} {p pos : Pos} {e : Expr} {es : List Expr} {t : TA}
end
end L2

namespace L2
open PySem PySem.Spec PyProof.Rows

noncomputable def InFl (X : Cx) (E : XK) (e : Value) (s1 : Shared) : Prop :=
  ∃ (a : Addr) (cls : Value) (od : Option Addr) (cx : Value) (H1 : Hp) (B : Heap), e = .ref a ∧ s1.os = X.s_0.os ∧ AllBare s1.gens ∧ Fly X.prog X.w X.outer X.H_0 H1 X.s_0.heap B s1.heap ∧ B.get? a = none ∧
    s1.heap.FunFrames B X.stack ∧ ExcAt s1.heap B a cls od cx ∧ CxOk B H1 od cx ∧ E cls od H1
theorem leaveE {P : Program} {w : World} {K : PySem.W.Frag} {mg : Str → Option Value} {base : Heap} {N : List Str} {qual : Str} {scope : Scope} {f : Addr} {cd : Value} {A : Around} {outer : List Env} {s0 : Shared} {H0 : Hp} {E' : XK}
    (e : Value) (s1 : Shared) (hA : (cxOf (CXE P w) P w K mg base N qual scope f cd A outer s0 H0 E').A.frames = some (cxOf (CXE P w) P w K mg base N qual scope f cd A outer s0 H0 E').stack) (x : InFl (cxOf (CXE P w) P w K mg base N qual scope f cd A outer s0 H0 E') E' e s1) : (cxOf (CXE P w) P w K mg base N qual scope f cd A outer s0 H0 E').xe e s1 := by
  obtain ⟨a, cls, od, cx, H1, B, rfl, os, bare, F, nb, hl, ex, hc, hq⟩ := x
  have hl2 : s1.heap.FunFrames B (envOfC qual scope s0.heap.objs.size f cd :: outer) := hl
  refine nt_leave (L := s0.heap.objs.size) hA hl2 rfl F.stay nb ex fun h2 n2 t2 => ?_
  exact ⟨a, cls, od, cx, H1, B, rfl, os, bare, F.step hl2.2.2 n2, nb, n2.fun_.2.2, t2, hc, hq⟩

theorem noteFrame_same {e : Value} {env env' : Env} (h : env.frame = env'.frame) : noteFrame e env = noteFrame e env' := by
  unfold noteFrame PySem.frameOf
  rw [h]
theorem funFrames_turn {h h' B B' : Heap} : ∀ {l : List Env}, h.FunFrames B l → (∀ b ∈ frs l, h'.get? b = h.get? b) → (∀ b, B.get? b = none → B'.get? b = none) → h'.FunFrames B' l
  | [], _, _, _ => trivial
  | env :: l, ⟨hk, ⟨L, o, hf, hn, ho, hd⟩, hr⟩, k, kb => by
    have hm : L ∈ frs (env :: l) := by unfold frs; rw [List.filterMap_cons, hf]; exact List.mem_cons_self
    refine ⟨hk, ⟨L, o, hf, kb L hn, (k L hm).trans ho, hd⟩, funFrames_turn hr (fun b hb => k b ?_) kb⟩
    unfold frs; rw [List.filterMap_cons, hf]; exact List.mem_cons_of_mem _ hb

noncomputable abbrev Cx.blkE (X : Cx) (E : XK) (s : Shared) (H : Hp) (scope : Scope) (cenv : Env) (fp : List Addr) : Cx := (X.blk s H scope cenv fp).wish fun e s1 => ∃ pins' σ' H' s', Inv (X.blk s H scope cenv fp) pins' σ' H' s' ∧ CXE X.prog X.w X.stack H' s' E e s1
theorem Inv.toE {X : Cx} {s0 : Shared} {H0 : Hp} {scope : Scope} {cenv : Env} {fp : List Addr} {pins : List (Addr × Obj)} {σ : St} {H : Hp} {s : Shared} (I : Inv (X.blk s0 H0 scope cenv fp) pins σ H s) (E : XK) : Inv (X.blkE E s0 H0 scope cenv fp) pins σ H s := I.wish _
theorem Inv.ofE {X : Cx} {E : XK} {s0 : Shared} {H0 : Hp} {scope : Scope} {cenv : Env} {fp : List Addr} {pins : List (Addr × Obj)} {σ : St} {H : Hp} {s : Shared} (I : Inv (X.blkE E s0 H0 scope cenv fp) pins σ H s) : Inv (X.blk s0 H0 scope cenv fp) pins σ H s := I.unwish
theorem passB {X : Cx} {E Eb : XK} {s0 : Shared} {H0 : Hp} {scope : Scope} {cenv : Env} {fp : List Addr} (hE : ∀ cls od H1, Eb cls od H1 → E cls od H1) : Passes (CXE X.prog X.w) (X.blkE E s0 H0 scope cenv fp) Eb := fun pins σ H s e s' I h => by
  refine ⟨pins, σ, H, s, I.ofE, ?_⟩
  obtain ⟨a, cls, od, cx, H1, B, z1, z2, z3, z4, z5, z6, z7, z8, z9⟩ := h
  exact ⟨a, cls, od, cx, H1, B, z1, z2, z3, z4, z5, z6, z7, z8, hE _ _ _ z9⟩

theorem blk_pass {X : Cx} {E : XK} {s3 : Shared} {H3 : Hp} {scope : Scope} {ce : Env} {fp : List Addr} {pins : List (Addr × Obj)} {σ : St} {use : Option (Value → Sem Unit)} {Qf : Value → Shared → Prop} {D : Value} {C : Addr} {e : Value} {s1 : Shared}
    (hlv : ∀ e s1, X.A.frames = some X.stack → InFl X E e s1 → X.xe e s1) (hex : X.ex = []) (hst : X.stack = X.env :: X.outer) (hfm : X.env.frame = some X.env.locals) (cF : ce.frame = X.env.frame) (cL : ce.locals = C) (hfp : ∀ b ∈ fp, FpOk X pins H3 b) (I3 : Inv X pins σ H3 s3)
    (z : (X.blkE E s3 H3 scope ce fp).xe e s1) : notedBy (model X.prog X.w) X.A ce (fun e s' => compPost (model X.prog X.w) X.A X.xe use Qf D C (.error e) s') e s1 := by
  obtain ⟨pins', σ', H', s', I', a, cls, od, cx, H1, B, rfl, os, bare, F, nb, hl, tr, hc, hq⟩ := z
  have hfr : X.A.frames = some (X.env :: X.outer) := by rw [I3.ok.frames, hst]
  have hl0 := hl
  rw [hst] at hl
  unfold notedBy
  rw [noteFrame_same cF]
  refine nt_note (L := X.env.locals) hfr hl hfm F.stay nb tr.exc fun h2 n2 t2 => ?_
  -- the block's own dict
  have hab : s3.heap.objs.size ≤ C := by rw [← cL]; exact I'.ok.above
  have frm : ∀ b ∈ frs X.stack, b < s3.heap.objs.size := fun b hb => by
    obtain ⟨_, o, q, _⟩ := I'.ok.funs.mem (show b ∈ (X.blk s3 H3 scope ce fp).outer.filterMap (·.frame) from hb)
    exact Heap.lt_size q
  have nC : C ∉ frs X.stack := fun q => absurd (frm C q) (Nat.not_lt.mpr hab)
  obtain ⟨m, hm, _⟩ := I'.loc
  have hm : s'.heap.Ns C m := by rw [← cL]; exact hm
  obtain ⟨oC, esC, epC, gC, dC, rC⟩ := hm
  have fC : H' C = none := by rw [← cL]; exact I'.free
  have BC : B.get? C = some oC := F.keep C oC gC fC nC
  refine ⟨m, ⟨oC, esC, epC, n2.stay _ _ BC, dC, rC⟩, fun h3 sb3 cenv hcl => ?_⟩
  obtain ⟨o, vs, T, oT, ts, q0, q1, q2, q3, q4, q5, q6, q7, q8, q9, q10⟩ := t2
  have gC2 := n2.stay _ _ BC
  have naC : a ≠ C := fun q => by rw [q, gC2] at q0; cases q0; rw [dC] at q3; cases q3
  have nTC : T ≠ C := fun q => by rw [q, gC2] at q8; cases q8; rw [dC] at q9; cases q9
  have p0 : h3.get? a = some o := (sb3.2 a naC).trans q0
  have p8 : h3.get? T = some oT := (sb3.2 T nTC).trans q8
  have kB2 : ∀ b, B.get? b = none → (PySem.W.hideAll B [C]).get? b = none := fun b q => by
    cases y : (PySem.W.hideAll B [C]).get? b with
    | none => rfl
    | some ob => rw [PySem.W.of_hideAll _ y] at q; cases q
  have gB2 : ∀ b ob, B.get? b = some ob → b ≠ C → (PySem.W.hideAll B [C]).get? b = some ob := fun b ob q ne => PySem.W.hideAll_get _ q (by simpa using ne)
  have hc2 : CxOk (PySem.W.hideAll B [C]) H1 od cx := ⟨hc.1, hc.2.mono fun c oc ws c1 c2 c3 => ⟨gB2 c oc c1 (fun y => by rw [y, BC] at c1; cases c1; rw [dC] at c2; cases c2), c3⟩⟩
  have st3 : (PySem.W.hideAll B [C]).StaysIn h3 := fun b ob q => by
    have ne : b ≠ C := fun y => by rw [y, PySem.W.hideAll_none [C] (by simp)] at q; cases q
    exact (sb3.2 b ne).trans (n2.stay b ob (PySem.W.of_hideAll _ q))
  have ff3 : h3.FunFrames (PySem.W.hideAll B [C]) X.stack := by
    rw [hst]
    refine funFrames_turn n2.fun_ (fun b hb => sb3.2 b fun y => nC ?_) kB2
    rw [hst, ← y]; exact hb
  have t3 : TrcAt h3 (PySem.W.hideAll B [C]) a cls od cx (rawInt X.env.locals) := ⟨o, vs, T, oT, ts, p0, q1, q2, q3, q4, q5, kB2 T q6, q7, p8, q9, q10⟩
  unfold PySem.passOn
  refine wpAny_bind (wpAny_field p0 q3 q5 ?_)
  rw [if_neg (show ¬ (Value.ref T == Value.none) = true from by simp)]
  refine wpAny_bind ?_
  refine nt_mark (s := { s1 with heap := h3 }) (m := cenv.frame) st3 ff3 t3 fun h4 n4 t4 => wpAny_throw (hlv _ _ I3.ok.frames ?_)
  -- from the entry of the def to here
  have nL : ∀ b ob, X.s_0.heap.get? b = some ob → b ∉ frs X.outer → b ∉ frs X.stack := fun b ob q hb y => by
    rw [hst] at y
    have y' : b ∈ X.env.locals :: frs X.outer := by
      have e : frs (X.env :: X.outer) = X.env.locals :: frs X.outer := by unfold frs; rw [List.filterMap_cons, hfm]
      rw [← e]; exact y
    rcases List.mem_cons.mp y' with r | r
    · exact absurd (Nat.lt_of_lt_of_le (Heap.lt_size q) I3.ok.above) (by rw [r]; exact Nat.lt_irrefl _)
    · exact hb r
  have nx : ∀ b : Addr, b ∉ X.ex := fun b y => by rw [hex] at y; cases y
  have nfp : ∀ b ob, X.s_0.heap.get? b = some ob → b ∉ fp := fun b ob q y => by
    rcases (hfp b y).2.2.2.1 with r | r
    · exact nx b r
    · exact absurd (Nat.lt_of_lt_of_le (Heap.lt_size q) r) (Nat.lt_irrefl _)
  have neC : ∀ b ob, X.s_0.heap.get? b = some ob → b ≠ C := fun b ob q => Nat.ne_of_lt (Nat.lt_of_lt_of_le (Heap.lt_size q) (Nat.le_trans I3.sz hab))
  have up4 : ∀ b ob, b ∈ frs X.outer → X.s_0.heap.get? b = some ob → ∃ sl, h4.get? b = some { ob with slots := sl } := fun b ob hb q => by
    have hbs : b ∈ frs X.stack := by rw [hst]; unfold frs; rw [List.filterMap_cons, hfm]; exact List.mem_cons_of_mem _ hb
    obtain ⟨sl1, y1⟩ := I3.base.slot b ob q (I3.ok.frf b hb) hb (nx b)
    obtain ⟨sl2, y2⟩ := I'.base.slot b _ y1 (I'.ok.frf b hbs) hbs (nfp b ob q)
    obtain ⟨sl3, y3⟩ := F.slot b _ y2 hbs
    obtain ⟨_, o', w1, w2⟩ := hl0.mem hbs
    rw [y3] at w1
    cases w1
    obtain ⟨sl4, y4⟩ := n2.up b _ y3 w2
    have y5 := (sb3.2 b (neC b ob q)).trans y4
    obtain ⟨sl5, y6⟩ := n4.up b _ y5 w2
    exact ⟨sl5, y6⟩
  refine ⟨a, cls, od, cx, H1, PySem.W.hideAll B [C], rfl, os.trans (I'.os.trans I3.os), bare, ⟨n4.stay, fun b u q => ?_, fun b ob q n hb => ?_, fun b ob q hb => up4 b ob hb q, I3.ok.frf, fun b ob q n => ?_, fun b ob q hb => ?_, fun b xs q => F.tups b xs (I'.base.tups b xs (I3.base.tups b xs q)), fun b ob u q => F.frzs b ob u (I'.base.frzs b ob u (I3.base.frzs b ob u q)), fun b ps q => ?_⟩, kB2 a nb, n4.fun_, t4.exc, hc2, hq⟩
  · have fC1 : H1 C = none := F.free C oC gC fC
    refine (F.ok b u q).stay (fun c v hcb y => gB2 c v y ?_) (fun _ y => y) fun _ _ y => y
    rintro rfl
    rcases hcb with r | r
    · rw [← r, fC1] at q; cases q
    · rw [fC1] at r; cases r
  · exact gB2 b ob (F.keep b ob (I'.base.keep b ob (I3.base.keep b ob q n hb (nx b)) (I3.base.free b ob q n (nx b)) (nL b ob q hb) (nfp b ob q)) (I'.base.free b ob (I3.base.keep b ob q n hb (nx b)) (I3.base.free b ob q n (nx b)) (nfp b ob q)) (nL b ob q hb)) (neC b ob q)
  · obtain ⟨o1, y1⟩ := I3.base.there b ob q (nx b)
    obtain ⟨o2, y2⟩ := I'.base.there b o1 y1 (nfp b ob q)
    exact F.free b o2 y2 (I'.base.free b o1 y1 (I3.base.free b ob q n (nx b)) (nfp b ob q))
  · obtain ⟨o1, y1⟩ := I3.base.there b ob q (nx b)
    obtain ⟨o2, y2⟩ := I'.base.there b o1 y1 (nfp b ob q)
    obtain ⟨o3, y3⟩ := F.all b o2 y2 (nL b ob q hb)
    exact ⟨o3, gB2 b o3 y3 (neC b ob q)⟩
  · obtain ⟨m1, y1⟩ := I3.base.tbls b ps q
    obtain ⟨m2, y2⟩ := I'.base.tbls b _ y1
    obtain ⟨m3, y3⟩ := F.tbls b _ y2
    exact ⟨m1 ++ m2 ++ m3, by rw [y3]; simp [Array.append_assoc]⟩

section
variable {X : Cx}
theorem lcx_core {pins : List (Addr × Obj)} {s : Shared} {σ : St} {H : Hp} {Q : VK} {elt tg iter : Expr} {ifs : List Expr} {scope : Scope} {own : List (Str × Nat)} {pos pos' : Pos} {wi : TI} {g : TG} {tt : TT} {te : TE} {use : Option (Value → Sem Unit)} {Qf : Value → Shared → Prop} {E : XK}
    (hlv : ∀ e s1, X.A.frames = some X.stack → InFl X E e s1 → X.xe e s1) (hex : X.ex = []) (hst : X.stack = X.env :: X.outer) (hfm : X.env.frame = some X.env.locals) (hc : X.calm = true) (hN : X.N.Nodup) (I : Inv X pins σ H s) (hi : PI X tg iter wi) (ok : BlkOk X.N X.env.scope scope own)
    (hg : ∀ (s : Shared) (H : Hp) (C : Addr) (cl : List (Str × Addr)) (fp : List Addr), PG (X.blkE E s H scope (compEnvC scope cl C X.env) fp) tg g) (ht : ∀ (s : Shared) (H : Hp) (C : Addr) (cl : List (Str × Addr)) (fp : List Addr), PTs (X.blkE E s H scope (compEnvC scope cl C X.env) fp) ifs tt)
    (he : ∀ (s : Shared) (H : Hp) (C : Addr) (cl : List (Str × Addr)) (fp : List Addr), PE (X.blkE E s H scope (compEnvC scope cl C X.env) fp) elt te) (hs : ∀ x, foldedSetIterable iter X.env x = pure x)
    (h : tLc wi g tt te (own.map (·.2)) σ H Q)
    (hRR : ∀ D C s' m H', Inv X pins σ H' s' → Q (.ref D) H' → s'.heap.Ns C m → FpOk X pins H' C → compPost (model X.prog X.w) X.A X.xe use Qf (.ref D) C (.ok .next) s') :
    wpAny (model X.prog X.w) X.A (comprehension (.ListComp elt [⟨tg, iter, ifs, 0⟩] scope pos) scope X.env pos' (newList []) false (eval iter X.env) use) Qf X.xe s := by
  have hfree : ∀ y ∈ scope.names, y.2 = .free → ∃ c, X.env.cells.lookup y.1 = some c := fun y hy e => by
    rcases ok.free y hy e with k | k
    · exact I.ok.has _ (.inl k)
    · exact I.ok.has _ (.inr k)
  refine wpAny_comprehension_free (use := use) rfl hs (closure_ok hfree) ok.kind (fun y hy e => by rw [ok.uniq y hy, e])
    (thn (hi pins s σ H _ I h) fun xv s1 hx => thn hx fun itv s2 h2 => ?_)
  obtain ⟨it, fp, tn, J, H2, e, I2, T, st2, f2, q⟩ := h2
  subst e
  refine wpAny_newObj_type (newEnv_comp ?_) (by show 0 ≤ sizeLine; decide)
  generalize hD : s2.heap.objs.size = D
  have hDn : H2 D = none := I2.hok.fresh (Nat.le_of_eq hD)
  obtain ⟨W, ⟨m0, w0⟩, turn⟩ := q D hDn
  -- the new list
  generalize hs3 : ({ s2 with heap := s2.heap.push { cls := .type "list", data := .seq ([] : List Value).toArray } } : Shared) = s3
  have I3 : Inv X pins σ (upd H2 D (.lst [])) s3 := by
    rw [← hs3]
    refine I2.laid (t' := s2.toks) (fun b o e => Heap.get?_push_of_some _ e) (Nat.le_of_eq hD) ⟨Nat.zero_le _, [], 0, .nil, ?_⟩
    rw [← hD]
    exact Heap.get?_push_size _ rfl
  have h3 : s3.heap = s2.heap.push { cls := .type "list", data := .seq ([] : List Value).toArray } := by rw [← hs3]
  have sz : ∀ b ∈ fp, b < s2.heap.objs.size := fun b hb => by
    obtain ⟨o, e, _⟩ := T.obj _ _ st2 b hb
    exact Heap.lt_size e
  have f3 : ∀ b ∈ fp, FpOk X pins (upd H2 D (.lst [])) b ∧ b < s3.heap.objs.size := fun b hb => by
    have hlt := sz b hb
    refine ⟨⟨?_, (f2 b hb).2⟩, by rw [h3, Heap.size_push]; exact Nat.lt_succ_of_lt hlt⟩
    rw [upd_ne (by rw [← hD]; exact Nat.ne_of_lt hlt)]
    exact (f2 b hb).1
  have st3 : tn 0 s3.heap := T.keep _ _ _ st2 fun b _ o e => by rw [h3]; exact Heap.get?_push_of_some _ e
  have I4 := block_start I3 ok hN f3
  have pg := hg s3 (upd H2 D (.lst [])) s3.heap.objs.size (cellsFrom (s3.heap.objs.size + 1) scope.names (cloFrom X.env.cells scope.names [])) fp
  have pt := ht s3 (upd H2 D (.lst [])) s3.heap.objs.size (cellsFrom (s3.heap.objs.size + 1) scope.names (cloFrom X.env.cells scope.names [])) fp
  have pe := he s3 (upd H2 D (.lst [])) s3.heap.objs.size (cellsFrom (s3.heap.objs.size + 1) scope.names (cloFrom X.env.cells scope.names [])) fp
  show codeAny _ _ (.compStart (.ListComp elt [⟨tg, iter, ifs, 0⟩] scope pos) 0 (.ref it) (.ref D) (compEnvC scope (cellsFrom (s3.heap.objs.size + 1) scope.names (cloFrom X.env.cells scope.names [])) s3.heap.objs.size X.env)) (compPost (model X.prog X.w) X.A X.xe use Qf (.ref D) s3.heap.objs.size) { s3 with heap := pushCells (s3.heap.push { cls := .type "dict", data := .dict #[] }) scope.names }
  have nfp : ∀ b ∈ fp, (upd H2 D (.lst [])) b = none := fun b hb => (f3 b hb).1.1
  generalize hce : compEnvC scope (cellsFrom (s3.heap.objs.size + 1) scope.names (cloFrom X.env.cells scope.names [])) s3.heap.objs.size X.env = ce at I4 pg pt pe ⊢
  have cL : ce.locals = s3.heap.objs.size := by subst hce; rfl
  generalize hH3 : upd H2 D (.lst []) = H3 at I3 I4 pg pt pe w0 nfp f3
  generalize hs4 : ({ s3 with heap := pushCells (s3.heap.push { cls := .type "dict", data := .dict #[] }) scope.names } : Shared) = s4 at I4 ⊢
  have st4 : tn 0 s4.heap := T.keep _ _ _ st3 fun b _ o e => by rw [← hs4]; exact pushCells_keeps _ _ _ _ (Heap.get?_push_of_some _ e)
  have stat : ∀ {σ' : St} {H' : Hp} {s' : Shared}, Inv (X.blk s3 H3 scope ce fp) [] σ' H' s' → (∀ b ∈ fp, H' b = none) → ∀ b ∈ fp, FpOk (X.blk s3 H3 scope ce fp) [] H' b := fun {σ' H' s'} I' hn b hb =>
    ⟨hn b hb, (I'.ok.exf b hb).1, I'.ok.exfs b hb, .inl hb, fun x c e => (I'.ok.exf b hb).2 x c e, fun p hp => absurd (show p ∈ ([] : List (Addr × Obj)) ++ [] from hp) (by simp)⟩
  have cF : ce.frame = X.env.frame := by subst hce; rfl
  have bp : ∀ e s1, (X.blkE E s3 H3 scope ce fp).xe e s1 → notedBy (model X.prog X.w) X.A ce (fun e s' => compPost (model X.prog X.w) X.A X.xe use Qf (.ref D) s3.heap.objs.size (.error e) s') e s1 := fun e s1 z =>
    blk_pass hlv hex hst hfm cF cL (fun b hb => (f3 b hb).1) I3 z
  have loop : codeAny (model X.prog X.w) X.A (.compLoop (.ListComp elt [⟨tg, iter, ifs, 0⟩] scope pos) 0 (.ref it) (.ref D) ce) (compPost (model X.prog X.w) X.A X.xe use Qf (.ref D) s3.heap.objs.size) s4 := by
    refine compLoop_any (fun n s' => ∃ i H', Inv (X.blk s3 H3 scope ce fp) [] (wipe σ (own.map (·.2))) H' s' ∧ tn i s'.heap ∧ (∀ b ∈ fp, H' b = none) ∧ W i n H') ?_ m0 ⟨0, H3, I4, st4, nfp, w0⟩
    rintro n s5 ⟨i, H5, I5, st5, n5, w5⟩
    rcases turn i n H5 w5 with ⟨stop, qq⟩ | ⟨go, Nx, hNx, step⟩
    · have td := T.done (X.blk s3 H3 scope ce fp) rfl rfl rfl hc i [] s5 _ H5 (fun _ _ => False) I5 (stat I5 n5) st5 stop
      refine thnF td fun r s6 ⟨hr, I6⟩ => ?_
      subst hr
      -- back in the def's context
      have I7 : Inv X pins σ H5 s6 := I3.call' (ch := fp) I6.os I6.base I6.hok I6.bare fun b hb => ⟨(f3 b hb).1.2.2.2.1, (f3 b hb).1.2.1, (f3 b hb).1.2.2.2.2.1, (f3 b hb).1.2.2.2.2.2⟩
      have nC : H5 s3.heap.objs.size = none := by
        have z : H5 ce.locals = none := I6.free
        rw [cL] at z
        exact z
      obtain ⟨m, hn, _⟩ := I6.loc
      have hn : s6.heap.Ns ce.locals m := hn
      rw [cL] at hn
      exact hRR D s3.heap.objs.size s6 m H5 I7 qq hn (I3.fpOk (Nat.le_refl _) nC)
    · have ti := T.item (X.blk s3 H3 scope ce fp) rfl rfl rfl hc i [] s5 _ H5 (fun _ _ => False) I5 (stat I5 n5) st5 go
      refine thnF ti fun r s6 ⟨u, hr, h6⟩ => ?_
      subst hr
      refine thnF h6 fun _ s7 ⟨x, H7, I7, r7, y7, st7, n7⟩ => ?_
      have I7' := I7.pinned (stat I7 n7) (T.obj _ _ st7)
      refine wpAny_mono (pg _ s7 _ H7 x u _ (I7'.toE E) r7 (step x H7 y7)) (fun _ s8 ⟨σ8, H8, I8e, hw8, q8⟩ => ?_) bp
      have I8 := I8e.ofE
      refine wpAny_mono (pt _ s8 σ8 H8 _ I8e q8) (fun b s9 ⟨H9, I9e, q9⟩ => ?_) bp
      have I9 := I9e.ofE
      -- the turn's end
      have fin : ∀ {s' : Shared} {H' : Hp}, Inv (X.blk s3 H3 scope ce fp) ([] ++ pinsAt fp s7.heap) σ8 H' s' → Nx H' → ∃ m, m < n ∧ ∃ i H', Inv (X.blk s3 H3 scope ce fp) [] (wipe σ (own.map (·.2))) H' s' ∧ tn i s'.heap ∧ (∀ b ∈ fp, H' b = none) ∧ W i m H' := fun {s' H'} I' nx => by
        obtain ⟨m', hm, w'⟩ := hNx H' nx
        have pin' : ∀ b ∈ fp, ∀ o, s7.heap.get? b = some o → s'.heap.get? b = some o ∧ H' b = none := fun b hb o e =>
          let z := I'.pin (b, o) (List.mem_append_right _ (List.mem_append_right _ (mem_pinsAt hb e)))
          ⟨z.1, z.2.1⟩
        have hl : (wipe σ (own.map (·.2))).length = σ8.length := by rw [← hw8, wipe_length]
        refine ⟨m', hm, i + 1, H', (I'.unpinned (pins := [])).weak hl (fun j v e => ?_), T.keep _ _ _ st7 fun b hb o e => (pin' b hb o e).1, fun b hb => ?_, w'⟩
        · rw [← hw8] at e
          exact (wipe_some e).1
        · obtain ⟨o, e, _⟩ := T.obj _ _ st7 b hb
          exact (pin' b hb o e).2
      cases b with
      | false =>
        simp only [Bool.false_eq_true, if_false] at q9 ⊢
        exact fin I9 q9
      | true =>
        simp only [if_true] at q9 ⊢
        refine wpAny_mono (pe _ s9 σ8 H9 _ I9e q9) (fun z s10 ⟨yv, H10, I10e, r10, acc, hD10, hz10, nx⟩ => ?_) bp
        have I10 := I10e.ofE
        exact app_ok (X := X.blk s3 H3 scope ce fp) I10 hD10 hz10 r10 fun s11 I11 => fin I11 nx
  exact codeAny_compStart_list loop (T.self X.A 0 _ _ _ st4 loop)
theorem pe_lcx {elt tg iter : Expr} {ifs : List Expr} {scope : Scope} {own : List (Str × Nat)} {pos : Pos} {wi : TI} {g : TG} {tt : TT} {te : TE} {E : XK} (hlv : ∀ e s1, X.A.frames = some X.stack → InFl X E e s1 → X.xe e s1) (hex : X.ex = []) (hst : X.stack = X.env :: X.outer) (hfm : X.env.frame = some X.env.locals) (hc : X.calm = true) (hN : X.N.Nodup) (hi : PI X tg iter wi) (ok : BlkOk X.N X.env.scope scope own)
    (hg : ∀ (s : Shared) (H : Hp) (C : Addr) (cl : List (Str × Addr)) (fp : List Addr), PG (X.blkE E s H scope (compEnvC scope cl C X.env) fp) tg g) (ht : ∀ (s : Shared) (H : Hp) (C : Addr) (cl : List (Str × Addr)) (fp : List Addr), PTs (X.blkE E s H scope (compEnvC scope cl C X.env) fp) ifs tt)
    (he : ∀ (s : Shared) (H : Hp) (C : Addr) (cl : List (Str × Addr)) (fp : List Addr), PE (X.blkE E s H scope (compEnvC scope cl C X.env) fp) elt te) (hs : ∀ x, foldedSetIterable iter X.env x = pure x := by intro _; rfl) :
    PE X (.ListComp elt [⟨tg, iter, ifs, 0⟩] scope pos) (tLc wi g tt te (own.map (·.2))) := by
  intro pins s σ H Q I h
  rw [eval_ListComp]
  refine lcx_core hlv hex hst hfm hc hN I hi ok hg ht he hs h fun D C s' m H' I' q hn f => ⟨m, hn, fun h'' sb => ?_⟩
  obtain ⟨f0, f1, f2, f3, f4, f5⟩ := f
  exact ⟨.ref D, H', I'.turned (t' := s'.toks) (fun b o hb e => (sb.2 b hb).trans e) f0 f1 f3 f4 f5, rfl, q⟩
theorem ps_setLcx {i : Nat} {y : Str} {py : Pos} {elt tg iter : Expr} {ifs : List Expr} {scope : Scope} {own : List (Str × Nat)} {pos spos : Pos} {wi : TI} {g : TG} {tt : TT} {te : TE} {E : XK} (hlv : ∀ e s1, X.A.frames = some X.stack → InFl X E e s1 → X.xe e s1) (hex : X.ex = []) (hst : X.stack = X.env :: X.outer) (hfm : X.env.frame = some X.env.locals) (hc : X.calm = true) (hN : X.N.Nodup) (hy : X.N[i]? = some y) (hyl : X.env.scope.names.lookup y = some .local)
    (hsw : swapsWith (.ListComp elt [⟨tg, iter, ifs, 0⟩] scope pos) (some (.Name y py)) spos.line X.env = pure true) (hi : PI X tg iter wi) (ok : BlkOk X.N X.env.scope scope own)
    (hg : ∀ (s : Shared) (H : Hp) (C : Addr) (cl : List (Str × Addr)) (fp : List Addr), PG (X.blkE E s H scope (compEnvC scope cl C X.env) fp) tg g) (ht : ∀ (s : Shared) (H : Hp) (C : Addr) (cl : List (Str × Addr)) (fp : List Addr), PTs (X.blkE E s H scope (compEnvC scope cl C X.env) fp) ifs tt)
    (he : ∀ (s : Shared) (H : Hp) (C : Addr) (cl : List (Str × Addr)) (fp : List Addr), PE (X.blkE E s H scope (compEnvC scope cl C X.env) fp) elt te) (hs : ∀ x, foldedSetIterable iter X.env x = pure x := by intro _; rfl) :
    PS X (.Assign [.Name y py] (.ListComp elt [⟨tg, iter, ifs, 0⟩] scope pos) spos) (tAsg (tLc wi g tt te (own.map (·.2))) (gName i)) := by
  intro pins s σ H D I h
  rw [exec_Assign_Name_used _ _ _ _ hsw]
  refine wpAny_bind (wpAny_standAt (wpAny_bind ?_))
  show wpAny _ X.A (do let _ ← comprehension (.ListComp elt [⟨tg, iter, ifs, 0⟩] scope pos) scope X.env (firstIterPos [⟨tg, iter, ifs, 0⟩] pos) (newList []) false (eval iter X.env) (some (assign (.Name y py) X.env))) _ _ s
  have h : tLc wi g tt te (own.map (·.2)) σ H (fun x H1 => gName i x σ H1 D.nx) := h
  refine wpAny_bind (thn (lcx_core (Qf := fun _ s' => SP X pins D .next s') hlv hex hst hfm hc hN I hi ok hg ht he hs h fun L C s' m H' I' q hn f => ?_) fun _ s' hq => wpAny_pure (wpAny_pure hq))
  show wpAny _ _ (assign (.Name y py) X.env (.ref L)) _ _ _
  refine wpAny_assign_Name (store_ok2 (v := V.ref L) I' hN hy (.inl hyl) rfl (fun s2 I2 ⟨a, sb, ha⟩ => ?_) (.inr hyl))
  obtain ⟨f0, f1, f2, f3, f4, f5⟩ := f
  have haC : C ≠ a := by
    rcases ha with z | z
    · rw [z]; exact f1
    · exact fun e => f4 y a z e.symm
  refine ⟨m, hn.sameBut sb haC, fun h3 sb3 => ?_⟩
  exact ⟨_, H', I2.turned (t' := s2.toks) (fun b o hb e => (sb3.2 b hb).trans e) f0 f1 f3 f4 f5, q⟩
end
end L2

namespace L2
open PySem PySem.Spec PyProof.Rows

noncomputable def ddS (l : List Str) (v : Str) : List Str := if l.any (· == v) = true then l else l ++ [v]
noncomputable def ddL (l : List Str) : List Str := l.foldl ddS []
theorem ddL_snoc (l : List Str) (v : Str) : ddL (l ++ [v]) = ddS (ddL l) v := by
  unfold ddL
  rw [List.foldl_append]
  rfl
theorem ddS_any (l : List Str) (v k : Str) : (ddS l v).any (· == k) = (l.any (· == k) || decide (k = v)) := by
  unfold ddS
  by_cases h : l.any (· == v) = true
  · rw [if_pos h]
    by_cases e : k = v
    · rw [e, h]; simp
    · simp [e]
  · (rw [if_neg h, List.any_append])
    by_cases e : k = v
    · subst e; simp
    · have q : (v == k) = false := by simpa [beq_iff_eq] using (fun z : v = k => e z.symm)
      simp [q, e]
theorem ddS_len (l : List Str) (v : Str) : (ddS l v).length = if l.any (· == v) = true then l.length else l.length + 1 := by
  unfold ddS
  split <;> simp
theorem ddL_le : ∀ (n : Nat) (l : List Str), l.length = n → (ddL l).length ≤ n
  | 0, l, h => by
    have e : l = [] := List.eq_nil_of_length_eq_zero h
    subst e
    exact Nat.le_refl _
  | n + 1, l, h => by
    have hl : l ≠ [] := by intro z; subst z; simp at h
    have e := (List.dropLast_concat_getLast hl).symm
    have hn : l.dropLast.length = n := by rw [List.length_dropLast, h]; rfl
    rw [e, ddL_snoc, ddS_len]
    have ih := ddL_le n l.dropLast hn
    split <;> omega
theorem ddL_mem (l : List Str) (k : Str) : (ddL l).any (· == k) = l.any (· == k) := by
  have key : ∀ (l : List Str) (a : List Str), (l.foldl ddS a).any (· == k) = (a.any (· == k) || l.any (· == k)) := by
    intro l
    induction l with
    | nil => intro a; simp
    | cons v r ih =>
      intro a
      rw [List.foldl_cons, ih, ddS_any, List.any_cons, Bool.or_assoc]
      congr 2
      by_cases e : k = v
      · subst e; simp
      · have q : (v == k) = false := by simpa [beq_iff_eq] using (fun z : v = k => e z.symm)
        simp [q, e]
  unfold ddL
  rw [key]
  simp
theorem ddL_nodup : ∀ (n : Nat) (l : List Str), l.length = n → ((ddL l).length = l.length ↔ l.Nodup)
  | 0, l, h => by
    have e : l = [] := List.eq_nil_of_length_eq_zero h
    subst e
    simp [ddL]
  | n + 1, l, h => by
    have hl : l ≠ [] := by intro z; subst z; simp at h
    have e := (List.dropLast_concat_getLast hl).symm
    have hn : l.dropLast.length = n := by rw [List.length_dropLast, h]; rfl
    have ih := ddL_nodup n l.dropLast hn
    have le := ddL_le n l.dropLast hn
    generalize l.dropLast = a at e hn ih le
    generalize l.getLast hl = v at e
    subst e
    rw [ddL_snoc, ddS_len, ddL_mem, List.length_append, List.length_singleton]
    have nd : (a ++ [v]).Nodup ↔ a.Nodup ∧ v ∉ a := by
      rw [List.nodup_append]
      constructor
      · rintro ⟨h1, h2, h3⟩
        exact ⟨h1, fun z => h3 v z v (by simp) rfl⟩
      · rintro ⟨h1, h2⟩
        exact ⟨h1, by simp, fun x hx y hy q => by simp at hy; subst hy; subst q; exact h2 hx⟩
    rw [nd]
    by_cases hv : v ∈ a
    · have q : a.any (· == v) = true := List.any_eq_true.mpr ⟨v, hv, by simp⟩
      rw [if_pos q]
      constructor
      · intro z; omega
      · intro z; exact absurd hv z.2
    · have q : ¬ a.any (· == v) = true := fun z => by
        obtain ⟨y, y1, y2⟩ := List.any_eq_true.mp z
        have y3 : y = v := by simpa using y2
        exact hv (by rw [← y3]; exact y1)
      rw [if_neg q]
      constructor
      · intro z; exact ⟨ih.mp (by omega), hv⟩
      · intro z; have := ih.mpr z.1; omega

section
variable {prog : Program} {w : World} {A : Around} {R : Result → Shared → Prop} {I : Addr} {fp wr : List Addr} {G : Array GenState → Array GenState → Prop} {n : Nat} {Pi : Nat → Value → Prop} {St : Nat → Shared → Prop}
theorem set_loop (W : WalksS prog w A.in1 I fp wr G n Pi St) (S : Addr) (nS : S ∉ fp) (ks : List Str) (hk : ks.length = n) (hv : ∀ i v, Pi i v → ∃ x t, ks[i]? = some x ∧ v = .str x t) (hb : n + 1 < scanBound) :
    ∀ (k i : Nat) (s : Shared), n - i = k → i ≤ n → St i s → s.heap.SetOf (strKind prog w) S (fun y => (ddL (ks.take i)).any (· == y)) (ddL (ks.take i)).length →
      (∀ s', Moved (S :: wr) G s s' → s'.heap.SetOf (strKind prog w) S (fun y => (ddL ks).any (· == y)) (ddL ks).length → R (.ok (.ret .none)) s') →
      (codeAny (model prog w) A (.builtin "set.update.loop" ⟨[.ref S, .ref I], []⟩) R s) := by
  have nw : S ∉ wr := fun z => nS (W.sub _ z)
  have sb : ∀ b ∈ wr, b ∈ S :: wr := fun b z => List.mem_cons_of_mem _ z
  intro k
  induction k with
  | zero =>
    intro i s e1 e2 st hS hR
    have e3 : i = n := by omega
    subst e3
    refine codeAny_builtin PyProof.Rows.F.entry_set_update_loop ?_
    rw [Around.under_plainId PyProof.Rows.F.plain_set_update_loop _]
    show wpAny _ A.in1 (pyNext (.ref I) >>= _) _ _ s
    refine wpAny_bind (W.done s _ _ st fun s' mv => ?_)
    (show wpAny _ A.in1 (ret Value.none) _ _ s')
    rw [List.take_of_length_le (by omega)] at hS
    refine wpAny_pure (hR s' (mv.mono sb) ?_)
    obtain ⟨o, es, ep, t, z, zz⟩ := hS
    exact ⟨o, es, ep, t, mv.heap S _ nw z, zz⟩
  | succ k ih =>
    intro i s e1 e2 st hS hR
    have lt : i < n := by omega
    refine codeAny_builtin PyProof.Rows.F.entry_set_update_loop ?_
    rw [Around.under_plainId PyProof.Rows.F.plain_set_update_loop _]
    show wpAny _ A.in1 (pyNext (.ref I) >>= _) _ _ s
    refine wpAny_bind (W.item i s _ _ lt st fun v s' hP st' mv => ?_)
    obtain ⟨x, t, hx, rfl⟩ := hv i v hP
    have hS2 : s'.heap.SetOf (strKind prog w) S (fun y => (ddL (ks.take i)).any (· == y)) (ddL (ks.take i)).length := by
      obtain ⟨o, es, ep, tb, z, zz⟩ := hS
      exact ⟨o, es, ep, tb, mv.heap S _ nw z, zz⟩
    show wpAny _ A.in1 (holding [Value.str x t] (setAdd S (.str x t)) >>= _) _ _ s'
    refine wpAny_bind (wpAny_holding ?_)
    unfold setAdd
    refine wpAny_holding ?_
    refine wpAny_bind ((strKind prog w).pyHash (k := x) (strKind_is _ _ _ _) ?_)
    have le := ddL_le i (ks.take i) (by rw [List.length_take]; omega)
    refine wpAny_setAddHashed_of (knd := strKind prog w) (s := { s' with toks := s'.toks + 1 }) (strKind_is _ _ _ _) rfl hS2 (by omega) fun h' hsb hS3 => ?_
    have tk : ks.take (i + 1) = ks.take i ++ [x] := by
      rw [List.take_succ, hx]; rfl
    have hS4 : h'.SetOf (strKind prog w) S (fun y => (ddL (ks.take (i + 1))).any (· == y)) (ddL (ks.take (i + 1))).length := SetOf_congr hS3 (fun y => by rw [tk, ddL_snoc, ddS_any]) (by rw [tk, ddL_snoc, ddS_len])
    refine wpAny_pure ⟨plainId_quiet PyProof.Rows.F.plain_set_update_loop _, ih (i + 1) _ (by omega) lt (W.frame _ s' _ _ st' (Nat.le_succ _) fun b z o e => ?_) hS4 fun s2 mv2 hS5 => ?_⟩
    · rw [hsb.2 b (fun y : b = S => nS (by rw [← y]; exact z))]; exact e
    · refine hR s2 (Moved.trans W.gtrans ((mv.mono sb).then_heap (Nat.le_succ _) fun b o z e => ?_) mv2) hS5
      rw [hsb.2 b (fun y : b = S => z (by rw [y]; exact List.mem_cons_self))]; exact e
end

section
variable {prog : Program} {w : World} {A : Around} {E : Value → Shared → Prop} {s : Shared}
theorem strs_at : ∀ {us : List Value} {ys : List Str}, StrsAre us ys → ∀ (i : Nat) (v : Value), us[i]? = some v → ∃ x t, ys[i]? = some x ∧ v = .str x t
  | _, _, .nil, i, v, h => by (simp at h)
  | _, _, .cons x t hr, 0, v, h => by simp at h; exact ⟨x, t, rfl, h.symm⟩
  | _, _, .cons x t hr, i + 1, v, h => by
    obtain ⟨y, t', e1, e2⟩ := strs_at hr i v (by simpa using h)
    exact ⟨y, t', by simpa using e1, e2⟩
theorem set_strs {l : Addr} {items : Array Value} {ys : List Str} {Q : Value → Shared → Prop} (hh : A.handled = none) (hl : s.heap.IsList l items) (hi : StrsAre items.toList ys) (hb : items.size + 1 < scanBound)
    (h : ∀ (h' : Heap) (tk : Nat), h'.SetOf (strKind prog w) s.heap.objs.size (fun y => (ddL ys).any (· == y)) (ddL ys).length → (∀ b o, b < s.heap.objs.size → s.heap.get? b = some o → h'.get? b = some o) → Q (.ref s.heap.objs.size) { s with heap := h', toks := tk }) :
    (wpAny (model prog w) A (call (.type "set") [.ref l]) Q E s) := by
  have hlen : ys.length = items.size := by have := hi.length; simpa using this.symm
  obtain ⟨c, tl, f0⟩ := PySem.F.called_set.mro
  have f1 := PySem.F.called_set.made
  have f2 := PySem.F.called_set.sub
  (refine wpAny_call (codeAny_of_tree ?_))
  (show wpAny _ _ (callAny (.type "set") _) _ _ _)
  refine wpAny_pure ⟨Code.quiet_builtin _ (by decide +kernel), codeAny_builtin PySem.F.entry_type_call ?_⟩
  (rw [Around.under_plain (weight_type_call_type "set" [.ref l] []) rfl])
  have f3 := PySem.F.called_set.notType
  have f4 := PySem.F.called_set.canCreate
  have f5 := PySem.F.typeCall_set_1 (.ref l)
  repeat (any_goals (first | assumption | wp_step))
  refine codeAny_mono (code_set_new_1 (.ref l) (E := E) (Q₁ := fun ob s1 => ∃ led : Bool, ob = .ref s.heap.objs.size ∧ s1 = { s with heap := s.heap.push { cls := .type "set", dict := none, data := .set #[] 0 (.fresh 0 0 led) } }) fun led => ⟨led, rfl, rfl⟩) fun r s1 hr => ?_
  cases r with
  | error e => exact hr
  | ok fl =>
    cases fl with
    | next => exact hr.elim
    | brk => exact hr.elim
    | cont => exact hr.elim
    | ret ob =>
      obtain ⟨led, rfl, rfl⟩ := hr
      have gS : (s.heap.push { cls := .type "set", dict := none, data := .set #[] 0 (.fresh 0 0 led) }).get? s.heap.objs.size = some { cls := .type "set", dict := none, data := .set #[] 0 (.fresh 0 0 led) } := Heap.get?_push_size _ rfl
      have tS : Shared.TypeIs { s with heap := s.heap.push { cls := .type "set", dict := none, data := .set #[] 0 (.fresh 0 0 led) } } (.ref s.heap.objs.size) "set" := ⟨_, gS, rfl⟩
      have f6 := PySem.F.called_set.init.lookup
      have f7 := PySem.F.called_set.init.bind (.ref s.heap.objs.size)
      repeat (any_goals (first | assumption | wp_step))
      refine codeAny_mono (codeAny_call_builtin (R := wants (fun r s2 => r = .none ∧ ∃ h' tk, s2 = { s with heap := h', toks := tk } ∧ h'.SetOf (strKind prog w) s.heap.objs.size (fun y => (ddL ys).any (· == y)) (ddL ys).length ∧
          (∀ b o, b < s.heap.objs.size → s.heap.get? b = some o → h'.get? b = some o)) E) PySem.F.called_set.init.plain PySem.F.entry_set_init (check_set_init_1 tS ?_)) fun r2 s2 hr2 => ?_
      · obtain ⟨ol, gl, cl, nl, dl⟩ := hl
        (obtain ⟨ocls, odict, odata, oslots⟩ := ol)
        simp only at cl dl
        subst cl; subst dl
        have gl2 : (s.heap.push { cls := .type "set", dict := none, data := .set #[] 0 (.fresh 0 0 led) }).get? l = some { cls := .type "list", dict := odict, data := .seq items nl, slots := oslots } := Heap.get?_push_of_some _ gl
        have f8 := PySem.F.sub_list_set
        have f9 := PySem.F.sub_list_frozenset
        have f10 : (Value.type "list" == Value.type "dict") = false := by decide
        have il : (s.heap.push { cls := .type "set", dict := none, data := .set #[] 0 (.fresh 0 0 led) }).IsList l items := ⟨_, gl2, rfl, nl, rfl⟩
        unfold Builtin.«set.__init__» noKeywords; unfold Builtin.Frozenset.updateFrom
        generalize hPI : pyIter = PI
        wp_walk
        subst hPI
        refine wpAny_pyIter_list il ?_
        (refine wpAny_bind (wpAny_runValue ?_))
        have ltl : l < s.heap.objs.size := Heap.lt_size gl
        have hd3 : A.in1.in1.in1.handled = none := by simp [hh]
        have ne1 : l ≠ (s.heap.push { cls := .type "set", dict := none, data := .set #[] 0 (.fresh 0 0 led) }).objs.size := by
          rw [Heap.size_push]; exact Nat.ne_of_lt (Nat.lt_succ_of_lt ltl)
        have ne2 : s.heap.objs.size ∉ [(s.heap.push { cls := .type "set", dict := none, data := .set #[] 0 (.fresh 0 0 led) }).objs.size, l] := by
          (rw [Heap.size_push]; simp only [List.mem_cons, List.mem_singleton, List.not_mem_nil, or_false, not_or])
          exact ⟨Nat.ne_of_lt (Nat.lt_succ_self _), Nat.ne_of_gt ltl⟩
        refine set_loop ((Walks.list hd3 _ l ne1 items).toS) s.heap.objs.size ne2 ys hlen (fun i v z => strs_at hi i v (by rw [Array.getElem?_toList]; exact z)) hb (items.size - 0) 0 _ (by omega) (Nat.zero_le _) ⟨⟨_, Heap.get?_push_size _ rfl, rfl, rfl⟩, (il.push _)⟩ ?c0 ?cR
        case c0 =>
          have g2 : ((s.heap.push { cls := .type "set", dict := none, data := .set #[] 0 (.fresh 0 0 led) }).push { cls := .type "list_iterator", data := .fields #[.ref l, .int 0 0] }).get? s.heap.objs.size = some { cls := .type "set", dict := none, data := .set #[] 0 (.fresh 0 0 led) } := Heap.get?_push_of_some _ gS
          exact SetOf_congr ((setObjOf_fresh (knd := strKind prog w) led).setOf g2 (by unfold scanBound; omega)) (fun _ => rfl) rfl
        case cR =>
          intro s' mv hS'
          (obtain ⟨h', g', d', tk', os'⟩ := s')
          obtain rfl : g' = s.gens := mv.gens
          obtain rfl : d' = s.drawn := mv.drawn
          obtain rfl : os' = s.os := mv.os
          show wpAny _ _ _ _ _ _
          refine wpAny_pure ?_
          (show wpAny _ _ (ret Value.none) _ _ _)
          refine wpAny_pure ⟨rfl, h', tk', rfl, hS', fun b o lb e => ?_⟩
          have n1 : b ≠ s.heap.objs.size := Nat.ne_of_lt lb
          have n2 : b ≠ (s.heap.push { cls := .type "set", dict := none, data := .set #[] 0 (.fresh 0 0 led) }).objs.size := by
            rw [Heap.size_push]; exact Nat.ne_of_lt (Nat.lt_succ_of_lt lb)
          exact mv.heap b o (by simp only [List.mem_cons, List.mem_singleton, List.not_mem_nil, or_false, not_or]; exact ⟨n1, n2⟩) (Heap.get?_push_of_some _ (Heap.get?_push_of_some _ e))
      · cases r2 with
        | error e => exact hr2
        | ok fl2 =>
          cases fl2 with
          | next => exact hr2.elim
          | brk => exact hr2.elim
          | cont => exact hr2.elim
          | ret r =>
            obtain ⟨rfl, h', tk, rfl, hS', k'⟩ := hr2
            repeat (any_goals (first | assumption | wp_step))
            exact h _ _ hS' k'
end

section
variable {X : Cx}
noncomputable def SetS (P : Program) (w : World) (a : Addr) (n : Nat) : HO := .ext fun h => ∃ S, h.SetOf (strKind P w) a S n
theorem call_setS (hc : X.calm = true) : CallR X (.type "set") (fun xs H Q => ∃ p, ∃ ys : List Str, xs = [.ref p] ∧ SqL X.K H p (ys.map V.str) ∧ ys.length < 1000 ∧ ∀ a, H a = none → Q (.ref a) (upd H a (SetS X.prog X.w a (ddL ys).length))) := by
  intro pins s σ H xs us Q I r h
  obtain ⟨p, ys, rfl, hp, hz, h⟩ := h
  obtain ⟨u, rfl, ru⟩ := vals1 r
  obtain rfl : u = Value.ref p := ru
  obtain ⟨its, ri, ⟨o, n, ho, hcl, _, hd⟩, _⟩ := I.list hp
  have hlen : its.length = ys.length := by have := ri.length; simpa using this.symm
  refine set_strs (items := its.toArray) (ys := ys) (I.ok.hd hc) ⟨o, ho, hcl, n, hd⟩ (by rw [List.toList_toArray]; exact strs_of_vals ri) (by rw [List.size_toArray, hlen]; unfold scanBound; omega) fun h' tk hS k => ?_
  have hf : H s.heap.objs.size = none := I.hok.fresh (Nat.le_refl _)
  refine ⟨.ref s.heap.objs.size, upd H s.heap.objs.size (SetS X.prog X.w s.heap.objs.size (ddL ys).length), I.laid (t' := tk) (fun b ob e => k b ob (Heap.lt_size e) e) (Nat.le_refl _) ?_, rfl, h _ hf⟩
  refine ⟨⟨_, hS⟩, ?_, ?_⟩
  · obtain ⟨o', _, _, _, z, _⟩ := hS
    exact ⟨o', z⟩
  · rintro h1 h2 ⟨S, o', es, ep, t, z, zz⟩ kk
    exact ⟨S, o', es, ep, t, kk _ z, zz⟩
theorem call_lenS : CallR X (.builtin "len") (fun xs H Q => ∃ a n, xs = [V.ref a] ∧ H a = some (SetS X.prog X.w a n) ∧ n < 1000 ∧ Q (.int n) H) := by
  intro pins s σ H xs us Q I r h
  obtain ⟨a, n, rfl, ha, hz, q⟩ := h
  obtain ⟨u, rfl, ru⟩ := vals1 r
  obtain rfl : u = Value.ref a := ru
  obtain ⟨⟨S, o, es, ep, t, z1, z2, z3, z4, z5, z6, z7, rfl⟩, _⟩ := I.hok a _ ha
  exact call_len_set z1 z2 z3 z7 (by omega) ⟨.int es.size, H, I.tok _, ⟨_, rfl⟩, q⟩
end
end L2

namespace L2
open PySem PySem.Spec PyProof.Rows
section
variable {C : Addr} {m : Str → Option Value}
variable {prog : Program} {w : World} {A : Around} {E : Value → Shared → Prop} {h : Heap} {g : Array GenState} {d : Drawn} {os : OsState} {t : Nat}
  {nm q : Str} {N x dx : Addr} {bs : List Value} {sn : List Str} {sub : List Value} {ab : Bool} {col : Option Bool} {dd : Option Addr} {k0 k1 k2 k3 k5 : Option Value} {newId : String} {name : Str} {v : Value} {o : Obj} {mD : Str → Option Value}
theorem load_entry {tk : Tok} {Q : PySem.Fin → Shared → Prop} (hC : h.get? C = some (excClassObj nm q C N bs excLine true sn sub ab col dd k0 k1 k2 k3 k5 newId)) (hn : h.Ns N m) (hna : m name = none)
    (hB : typeLookup (.type "Exception") name = pure none) (hx : h.get? x = some o) (hc : o.cls = .ref C) (hnc : ∀ c, o.data ≠ .cls c) (hdn : o.dict = some dx) (hD : h.Ns dx mD) (hv : mD name = some v)
    (hq : Q (.done (.ret v)) ⟨h, g, d, t, os⟩) :
    wpAny (model prog w) A (Builtin.«object.__getattribute__» ⟨[.ref x, .str name tk], []⟩) Q E ⟨h, g, d, t, os⟩ := by
  (unfold Builtin.«object.__getattribute__»)
  repeat (any_goals (first | assumption | (with_reducible refine wpAny_loadPart_at hx ?_; rw [hc]) | (with_reducible refine wpAny_typeLookup_exc hC hn PySem.F.store_Exception.mro hB ?_; rw [hna]) | wp_step))
  split
  · rename_i c z
    exact absurd z (hnc c)
  unfold instanceDict
  repeat (any_goals (first | assumption | (with_reducible refine wpAny_loadPart_at hx ?_; rw [hc, hdn]) | (with_reducible refine wpAny_nsGet hD ?_; rw [hv]) | wp_step))
theorem check_ga {M : Model} {nameV : Value} {Q : Unit → Shared → Prop} (hC : h.get? C = some (excClassObj nm q C N bs excLine true sn sub ab col dd k0 k1 k2 k3 k5 newId)) (hx : h.get? x = some o) (hc : o.cls = .ref C) (hq : Q () ⟨h, g, d, t, os⟩) :
    wpAny M A (checkBuiltinCall "BaseException.__getattribute__" ⟨[.ref x, nameV], []⟩) Q E ⟨h, g, d, t, os⟩ := by
  (have hk : builtinKind "BaseException.__getattribute__" = some .slot := by decide +kernel)
  (have hsplit : splitId "BaseException.__getattribute__" = some ("BaseException", "__getattribute__") := by decide +kernel)
  have hcB : (Value.ref C :: excLine).contains (.type "BaseException") = true := by rfl
  have ha := PySem.F.args_bexc_ga (.ref x) nameV
  (simp only [checkBuiltinCall, hk, hsplit])
  refine wpAny_bind ?_
  unfold isInstance
  (repeat (first | (with_reducible refine wpAny_loadPart_at hx ?_; rw [hc]) | (with_reducible refine wpAny_isSubtype_exc hC ?_; rw [hcB]) | wp_step))
  exact hq
theorem load_call {tk : Tok} {R : Result → Shared → Prop} (hC : h.get? C = some (excClassObj nm q C N bs excLine true sn sub ab col dd k0 k1 k2 k3 k5 newId)) (hn : h.Ns N m) (hna : m name = none)
    (hB : typeLookup (.type "Exception") name = pure none) (hx : h.get? x = some o) (hc : o.cls = .ref C) (hnc : ∀ c, o.data ≠ .cls c) (hdn : o.dict = some dx) (hD : h.Ns dx mD) (hv : mD name = some v)
    (hq : R (.ok (.ret v)) ⟨h, g, d, t, os⟩) : codeAny (model prog w) A (.call (.builtin "BaseException.__getattribute__") ⟨[.ref x, .str name tk], []⟩) R ⟨h, g, d, t, os⟩ :=
  codeAny_call_builtin PySem.F.attrBase_Exception.ga.plain PySem.F.entry_bexc_ga (check_ga hC hx hc (load_entry hC hn hna hB hx hc hnc hdn hD hv hq))
theorem load_by {tk tv : Tok} {i : Int} {fill expr : Bool} {Q : Value → Shared → Prop} (hC : h.get? C = some (excClassObj nm q C N bs excLine true sn sub ab col dd k0 k1 k2 k3 k5 newId)) (hn : h.Ns N m) (hna : m name = none) (hga : m "__getattribute__" = none) (hgt : m "__getattr__" = none)
    (hB : typeLookup (.type "Exception") name = pure none) (hx : h.get? x = some o) (hc : o.cls = .ref C) (hnc : ∀ c, o.data ≠ .cls c) (hdn : o.dict = some dx) (hD : h.Ns dx mD) (hv : mD name = some (.int i tv))
    (hq : Q (.int i tv) ⟨h, g, d, t, os⟩) : wpAny (model prog w) A (getAttrBy (.ref x) (.str name tk) fill expr) Q E ⟨h, g, d, t, os⟩ := by
  have f3 := PySem.F.attrBase_Exception.ga.bind (.ref x)
  (have hx0 : (expr && onTheHeap (Value.builtin "BaseException.__getattribute__")) = false := by cases expr <;> rfl)
  (have hx2 : (Value.builtin "BaseException.__getattribute__" == Value.builtin "object.__getattribute__") = false := by decide +kernel)
  (have hx1 : (onTheHeap (Value.ref C) && Value.builtin "BaseException.__getattribute__" == Value.builtin "object.__getattribute__") = false := by rw [hx2]; rfl)
  repeat (any_goals (first | assumption | (with_reducible refine wpAny_loadPart_at hx ?_; rw [hc]) | (with_reducible refine wpAny_typeLookup_exc hC hn PySem.F.store_Exception.mro PySem.F.attrBase_Exception.ga.lookup ?_; rw [hga]) | (with_reducible refine wpAny_typeLookup_exc hC hn PySem.F.store_Exception.mro PySem.F.attrBase_Exception.noGetattr ?_; rw [hgt]) | wp_step))
  refine load_call hC hn hna hB hx hc hnc hdn hD hv ?_
  repeat (any_goals (first | assumption | wp_step))
theorem load_attr {expr : Bool} {tv : Tok} {i : Int} {Q : Value → Shared → Prop} (hC : h.get? C = some (excClassObj nm q C N bs excLine true sn sub ab col dd k0 k1 k2 k3 k5 newId)) (hn : h.Ns N m) (hna : m name = none) (hga : m "__getattribute__" = none) (hgt : m "__getattr__" = none)
    (hB : typeLookup (.type "Exception") name = pure none) (hx : h.get? x = some o) (hc : o.cls = .ref C) (hnc : ∀ c, o.data ≠ .cls c) (hdn : o.dict = some dx) (hD : h.Ns dx mD) (hv : mD name = some (.int i tv))
    (hq : Q (.int i tv) ⟨h, g, d, t + 1, os⟩) : wpAny (model prog w) A (getAttr (.ref x) name expr) Q E ⟨h, g, d, t, os⟩ := by
  unfold getAttr
  repeat (any_goals (first | assumption | with_reducible apply load_by hC hn hna hga hgt hB hx hc hnc hdn hD hv | wp_step))
end
end L2

namespace L2
open PySem PySem.Spec PyProof.Rows

section
variable {E : Value → Shared → Prop} {M : Model} {A : Around}
variable {nm q nm' q' : Str} {C N C' N' : Addr} {bs bs' : List Value} {sn sn' : List Str} {sub sub' : List Value} {ab ab' : Bool} {col col' : Option Bool} {dd dd' : Option Addr} {k0 k1 k2 k3 k5 l0 l1 l2 l3 l5 : Option Value} {newId newId' : String}
theorem excM_other {h : Heap} {g : Array GenState} {d : Drawn} {t : Nat} {os : OsState} {e : Addr} {oe : Obj} {Q : Bool → Shared → Prop}
    (hC : h.get? C = some (excClassObj nm q C N bs excLine true sn sub ab col dd k0 k1 k2 k3 k5 newId)) (hD : h.get? C' = some (excClassObj nm' q' C' N' bs' excLine true sn' sub' ab' col' dd' l0 l1 l2 l3 l5 newId'))
    (he : h.get? e = some oe) (hcls : oe.cls = .ref C') (ne : C' ≠ C)
    (hq : Q false ⟨h, g, d, t, os⟩) : wpAny M A (excMatches (.ref e) (.ref C)) Q E ⟨h, g, d, t, os⟩ := by
  have hcB : (Value.ref C :: excLine).contains (.type "BaseException") = true := by rfl
  have hcD : (Value.ref C' :: excLine).contains (.ref C) = false := by
    rw [List.contains_cons]
    have : (Value.ref C == Value.ref C') = false := by simp; exact fun z => ne z.symm
    rw [this]; rfl
  have f := tc_notTuple
  unfold excMatches
  repeat (first | (with_reducible refine wpAny_loadPart_at he ?_; rw [hcls]) | with_reducible refine wpAny_loadPart_at hC ?_ | (with_reducible refine wpAny_isSubtype_exc hC ?_; rw [hcB]) | (with_reducible refine wpAny_isSubtype_exc hD ?_; rw [hcD]) | wp_step)
  exact hq
end

section
variable {X : Cx} {pins p0 : List (Addr × Obj)} {σ : St} {H : Hp} {s : Shared} {ES : St → XK}
noncomputable abbrev Cx.tryS (X : Cx) (p0 : List (Addr × Obj)) (ES : St → XK) : Cx := { X with pn := X.pn ++ p0, xe := fun e s1 => ∃ σ' H' s', Inv X p0 σ' H' s' ∧ CXE X.prog X.w X.stack H' s' (ES σ') e s1 }
theorem Inv.toTry (I : Inv X p0 σ H s) : Inv (X.tryS p0 ES) [] σ H s :=
  ⟨⟨I.ok.mod, I.ok.kind, I.ok.glob, I.ok.blt, I.ok.above, I.ok.inj, I.ok.has, I.ok.cab, I.ok.hd, I.ok.frames, I.ok.stk, I.ok.exf, I.ok.bs, I.ok.bsz, I.ok.noex, I.ok.exfs, I.ok.funs, I.ok.frf⟩,
    I.os, I.bare, I.base, I.loc, I.cell, I.free, I.freeC, fun p hp => I.pin p (by rw [List.append_nil] at hp; exact hp), I.hok, I.len⟩
theorem Inv.ofTry (I : Inv (X.tryS p0 ES) pins σ H s) : Inv X p0 σ H s :=
  ⟨⟨I.ok.mod, I.ok.kind, I.ok.glob, I.ok.blt, I.ok.above, I.ok.inj, I.ok.has, I.ok.cab, I.ok.hd, I.ok.frames, I.ok.stk, I.ok.exf, I.ok.bs, I.ok.bsz, I.ok.noex, I.ok.exfs, I.ok.funs, I.ok.frf⟩,
    I.os, I.bare, I.base, I.loc, I.cell, I.free, I.freeC, fun p hp => I.pin p (List.mem_append_left _ hp), I.hok, I.len⟩
noncomputable def tCallS (sp : Sp) (ES : St → XK) (t : TA) : TE := fun σ H Q => t σ H fun vs H1 => sp vs H1 Q (ES σ)
theorem pcallS {x : Str} {k : Nat} {f : Addr} {fd : FuncData} {ps : List Str} {sp : Sp} {e : Expr} {es : List Expr} {t : TA} {p pos : Pos} (F : FnOk X.prog X.w X.K X.mg X.base (CXE X.prog X.w) k f fd ps sp) (hr : Room k X.A) (hg : Gl X x) (hm : X.mg x = some (.ref f)) (hk : PySem.W.keepIn X.K (.ref f) = true) (hb : Binds X.K fd ps [])
    (ha : PA (X.tryS p0 ES) (e :: es) t) (hdb : (x == ("__debug__" : Str)) = false := by decide) (he : starEach (e :: es) X.env = (false, eval e X.env) :: starEach es X.env := by rfl) (hpl : (backTo pos (starEach es X.env)).any (·.1) = false := by rfl) :
    PE (X.tryS p0 ES) (.Call (.Name x p) (e :: es) [] pos) (tCallS sp ES t) := by
  intro pins s σ H Q I h
  refine wpAny_Call_Name_kw (ld_glob I hg hm ?_ hdb)
  refine PySem.W.callWith_K (h₀ := X.base) I.ok.mod.kin hk (thn (ha pos pins s σ H _ I h) fun us s1 ⟨vs, H1, I1, r, q⟩ => ⟨I1.kIn, ?_⟩) he hpl
  have hl : (us ++ []).length = ps.length := by rw [List.append_nil, ← r.length]; exact F.len _ _ _ _ q
  have bt := hb s1 us I1.kIn hl
  rw [List.append_nil] at bt
  refine wpAny_call (codeAny_mono (F.run X.A X.stack s1 H1 ⟨us, []⟩ us vs Q (ES σ) hr I1.env0 bt r q) fun rr s' hq => ?_)
  cases rr with
  | error ev => exact ⟨σ, H1, s1, I1.ofTry, hq⟩
  | ok fl =>
    cases fl with
    | ret u => exact I1.after hq
    | next => exact False.elim hq
    | brk => exact False.elim hq
    | cont => exact False.elim hq

structure Raised (X : Cx) (pins : List (Addr × Obj)) (σ : St) (a : Addr) (cls : Value) (od : Option Addr) (H1 : Hp) (s3 : Shared) : Prop where
  ex : ∃ H0 s B cx, Inv X pins σ H0 s ∧ Fly X.prog X.w X.stack H0 H1 s.heap B s3.heap ∧ s3.os = s.os ∧ AllBare s3.gens ∧ B.get? a = none ∧ s3.heap.FunFrames B X.stack ∧ TrcAt s3.heap B a cls od cx .none ∧ CxOk B H1 od cx
noncomputable def PHs (X : Cx) (hs : List ExceptHandler) (th : Ends → St → XK) : Prop :=
  ∀ (pins : List (Addr × Obj)) (σ : St) (a : Addr) (cls : Value) (od : Option Addr) (H1 : Hp) (s3 : Shared) (D : Ends), Raised X pins σ a cls od H1 s3 → th D σ cls od H1 → wpAny (model X.prog X.w) X.A (handleBy (.ref a) X.env hs) (SP X pins D) X.xe s3
theorem at_tryG {Eb : XK} {e : Value} {s1 : Shared} {H0 : Hp} {D : Ends} {hs : List ExceptHandler} {th : Ends → St → XK} (I : Inv X pins σ H0 s) (hst : X.stack = X.env :: X.outer) (hfm : X.env.frame = some X.env.locals) (hx : CXE X.prog X.w X.stack H0 s (th D σ) e s1) (hh : PHs X hs th) :
    wpAny (model X.prog X.w) X.A (noteFrame e X.env) (fun _ s2 => wpAny (model X.prog X.w) X.A (setFlight e none) (fun _ s3 => wpAny (model X.prog X.w) X.A (handleBy e X.env hs) (SP X pins D) X.xe s3) X.xe s2) X.xe s1 := by
  obtain ⟨a, cls, od, cx, H1, B, rfl, os, bare, F, nb, hl, tr, hc, hq⟩ := hx
  have hfr : X.A.frames = some (X.env :: X.outer) := by rw [I.ok.frames, hst]
  rw [hst] at hl F
  refine nt_note (L := X.env.locals) hfr hl hfm F.stay nb tr.exc fun h2 n2 t2 => ?_
  refine nt_mark (s := { s1 with heap := h2 }) (m := none) n2.stay n2.fun_ t2 fun h3 n3 t3 => ?_
  refine hh pins σ a cls od H1 { s1 with heap := h3 } D ⟨H0, s, B, cx, I, ?_, os, bare, nb, ?_, t3, hc⟩ hq
  · rw [hst]; exact (F.step hl n2).step n2.fun_ n3
  · rw [hst]; exact n3.fun_
theorem ph_nil : PHs X [] (fun _ _ _ _ _ => False) := fun _ _ _ _ _ _ _ _ _ h => h.elim
noncomputable def tOwn (K : PySem.W.Frag) (C : Addr) (th : TS) (tr : Ends → St → XK) : Ends → St → XK := fun D σ cls od H => (cls = .ref C ∧ od = none ∧ th D σ H) ∨ ∃ C' m', cls = .ref C' ∧ C' ≠ C ∧ XCls K C' m' ∧ tr D σ cls od H
theorem ph_own {C : Addr} {m : Str → Option Value} {x : Str} {np hpos : Pos} {b0 : Stmt} {suite : List Stmt} {rest : List ExceptHandler} {th : TS} {tr : Ends → St → XK} (T : XCls X.K C m) (hg : Gl X x) (hm : X.mg x = some (.ref C)) (hst : X.stack = X.env :: X.outer) (hfm : X.env.frame = some X.env.locals)
    (hs : ∀ a oe, Caught C none oe → PSs (X.hnd a oe) (b0 :: suite) th) (hr : PHs X rest tr) (hd : (x == ("__debug__" : Str)) = false := by decide) : PHs X (.ExceptHandler (some (.Name x np)) none (b0 :: suite) hpos :: rest) (tOwn X.K C th tr) := by
  intro pins σ a cls od H1 s3 D R h
  obtain ⟨H0, s, B, cx, I, F, os, bare, nb, hl, tr, hc⟩ := R.ex
  obtain ⟨nm, q, N, bs, sn, sub, ab, col, dd, k0, k1, k2, k3, k5, lk, ns⟩ := T.ex
  rcases h with ⟨rfl, rfl, h⟩ | ⟨C', m', rfl, ne, T', h⟩
  · obtain ⟨oe, Ih, Ct, q0⟩ := inv_at I F os bare nb hl hst hfm tr hc
    refine wpAny_handleBy_cons (codeAny_handlers_test (ld_glob (X := X.hnd a oe) Ih hg hm ?_ hd)) (by intro z; cases z)
    obtain ⟨hp, g, d, tk, os3⟩ := s3
    refine wpAny_excMatches_sub_self (C := C) (Ih.kIn _ _ lk) q0 Ct.cls (by decide) ?_
    refine codeAny_handlers_suite (nt_mark (B := B) (m := none) F.stay hl tr fun h4 n4 t4 => ?_)
    obtain ⟨oe4, I4, C4, _⟩ := inv_at (s3 := ⟨h4, g, d, tk, os3⟩) I (F.step hl n4) os bare nb n4.fun_ hst hfm t4 hc
    exact wpAny_mono (hs a oe4 C4 pins _ σ H1 D I4 h) (fun f s5 q => SP.unhnd I.ok.hd q) (fun _ _ z => z)
  · obtain ⟨oe, Ih, Ct, q0⟩ := inv_at I F os bare nb hl hst hfm tr hc
    obtain ⟨nm', q', N', bs', sn', sub', ab', col', dd', l0, l1, l2, l3, l5, lk', ns'⟩ := T'.ex
    refine wpAny_handleBy_cons (codeAny_handlers_test (ld_glob (X := X.hnd a oe) Ih hg hm ?_ hd)) (by intro z; cases z)
    obtain ⟨hp, g, d, tk, os3⟩ := s3
    refine excM_other (Ih.kIn _ _ lk) (Ih.kIn _ _ lk') q0 Ct.cls ne ?_
    exact hr pins σ a _ od H1 _ D ⟨H0, s, B, cx, I, F, os, bare, nb, hl, tr, hc⟩ h
noncomputable def tAs (K : PySem.W.Frag) (C : Addr) (i : Nat) (th : Addr → Addr → TS) (tr : Ends → St → XK) : Ends → St → XK := fun D σ cls od H =>
  (∃ dx, cls = .ref C ∧ od = some dx ∧ ∀ a, th a dx { nx := fun _ _ => False, rt := D.rt, bk := fun _ _ => False, ct := fun _ _ => False } (σ.set i (some (.ref a))) H) ∨ ∃ C' m', cls = .ref C' ∧ C' ≠ C ∧ XCls K C' m' ∧ tr D σ cls od H
theorem ph_as {C : Addr} {m : Str → Option Value} {x n : Str} {i : Nat} {np hpos : Pos} {b0 : Stmt} {suite : List Stmt} {rest : List ExceptHandler} {th : Addr → Addr → TS} {tr : Ends → St → XK} (T : XCls X.K C m) (hg : Gl X x) (hm : X.mg x = some (.ref C)) (hst : X.stack = X.env :: X.outer) (hfm : X.env.frame = some X.env.locals)
    (hN : X.N.Nodup) (hi : X.N[i]? = some n) (hl : X.env.scope.names.lookup n = some .local)
    (hs : ∀ a oe dx, Caught C (some dx) oe → PSs (X.hnd a oe).nox (b0 :: suite) (th a dx)) (hr : PHs X rest tr) (hd : (x == ("__debug__" : Str)) = false := by decide) : PHs X (.ExceptHandler (some (.Name x np)) (some n) (b0 :: suite) hpos :: rest) (tAs X.K C i th tr) := by
  intro pins σ a cls od H1 s3 D R h
  obtain ⟨H0, s, B, cx, I, F, os, bare, nb, hl3, tr, hc⟩ := R.ex
  obtain ⟨nm, q, N, bs, sn, sub, ab, col, dd, k0, k1, k2, k3, k5, lk, ns⟩ := T.ex
  rcases h with ⟨dx, rfl, rfl, h⟩ | ⟨C', m', rfl, ne, T', h⟩
  · obtain ⟨oe, Ih, Ct, q0⟩ := inv_at I F os bare nb hl3 hst hfm tr hc
    refine wpAny_handleBy_cons (codeAny_handlers_test (ld_glob (X := X.hnd a oe) Ih hg hm ?_ hd)) (by intro z; cases z)
    obtain ⟨hp, g, d, tk, os3⟩ := s3
    refine wpAny_excMatches_sub_self (C := C) (Ih.kIn _ _ lk) q0 Ct.cls (by decide) ?_
    refine codeAny_handlers_suite_as (nt_mark (B := B) (m := none) F.stay hl3 tr fun h4 n4 t4 => ?_)
    obtain ⟨oe4, I4, C4, _⟩ := inv_at (s3 := ⟨h4, g, d, tk, os3⟩) I (F.step hl3 n4) os bare nb n4.fun_ hst hfm t4 hc
    refine store_ok (X := X.hnd a oe4) (v := V.ref a) I4 hN hi (.inl hl) rfl (fun s5 I5 => ?_) (.inr hl)
    refine wpAny_mono (hs a oe4 dx C4 pins s5 _ H1 _ (I5.wish _) (h a)) (fun f s6 z => ?_) fun _ _ z => z.elim
    cases f with
    | next => obtain ⟨_, _, _, q⟩ := z; exact q.elim
    | brk => obtain ⟨_, _, _, q⟩ := z; exact q.elim
    | cont => obtain ⟨_, _, _, q⟩ := z; exact q.elim
    | ret u =>
      obtain ⟨v, σ5, H5, I6, ru, qr⟩ := z
      have I6 := I6.unwish
      obtain ⟨mm, hn6, _⟩ := I6.loc
      have kl : X.env.kindOf n = some .local := hl
      show wpAny _ _ (do bindName X.env n .none; unbindBehindTheSuite X.env n hpos) _ _ _
      refine wpAny_nameGoes kl hn6 (by rw [I.ok.kind]; rfl) fun h7 m7 hn7 sb7 => ?_
      exact ⟨v, _, H5, (I6.unhnd I.ok.hd).lost hn7 sb7, ru, qr⟩
  · obtain ⟨oe, Ih, Ct, q0⟩ := inv_at I F os bare nb hl3 hst hfm tr hc
    obtain ⟨nm', q', N', bs', sn', sub', ab', col', dd', l0, l1, l2, l3, l5, lk', ns'⟩ := T'.ex
    refine wpAny_handleBy_cons (codeAny_handlers_test (ld_glob (X := X.hnd a oe) Ih hg hm ?_ hd)) (by intro z; cases z)
    obtain ⟨hp, g, d, tk, os3⟩ := s3
    refine excM_other (Ih.kIn _ _ lk) (Ih.kIn _ _ lk') q0 Ct.cls ne ?_
    exact hr pins σ a _ od H1 _ D ⟨H0, s, B, cx, I, F, os, bare, nb, hl3, tr, hc⟩ h
noncomputable def tTry (tb : (St → XK) → TS) (th : Ends → St → XK) : TS := fun D σ H => tb (th D) D σ H
theorem ps_try {body : List Stmt} {h0 : ExceptHandler} {hs : List ExceptHandler} {tpos : Pos} {tb : (St → XK) → TS} {th : Ends → St → XK} (hst : X.stack = X.env :: X.outer) (hfm : X.env.frame = some X.env.locals) (hb : ∀ p0 ES, PSs (X.tryS p0 ES) body (tb ES)) (hh : PHs X (h0 :: hs) th) :
    PS X (.Try body (h0 :: hs) [] [] tpos) (tTry tb th) := by
  intro pins s σ H D I h
  refine wpAny_Try_except (wpAny_mono (hb pins (th D) [] s σ H D I.toTry h) (fun f s1 z => ?_) (fun e s1 z => ?_))
  · cases f with
    | next => obtain ⟨σ', H', I', q⟩ := z; exact wpAny_execs_nil ⟨σ', H', I'.ofTry, q⟩
    | brk => obtain ⟨σ', H', I', q⟩ := z; exact ⟨σ', H', I'.ofTry, q⟩
    | cont => obtain ⟨σ', H', I', q⟩ := z; exact ⟨σ', H', I'.ofTry, q⟩
    | ret u => obtain ⟨v, σ', H', I', r, q⟩ := z; exact ⟨v, σ', H', I'.ofTry, r, q⟩
  · obtain ⟨σ', H', s', I', z⟩ := z
    exact at_tryG (Eb := th D σ') I' hst hfm z hh
end
end L2

namespace L2
open PySem PySem.Spec PyProof.Rows
section
variable {P : Program} {w : World} {K : PySem.W.Frag} {mg : Str → Option Value} {base : Heap}
theorem Fun.okE {x qual : Str} {st : Stmt} {f : Addr} {fd : FuncData} {N ps : List Str} {k : Nat} {sp : Sp} (F : Fun K x qual st f fd) (S : FnScope N ps (defScope st)) (len : ∀ vs H Q E, sp vs H Q E → vs.length = ps.length)
    (hbody : ∀ (cdv : Value) (A : Around) (outer : List Env) (s : Shared) (H : Hp) (vs : List V) (Q : VK) (E : XK), Room k (A.deeper (envOfC qual (defScope st) s.heap.objs.size f cdv)) → sp vs H Q E →
      ∃ t, PSs (cxOf (CXE P w) P w K mg base N qual (defScope st) f cdv A outer s H E) (defBody st) t ∧ t { nx := fun _ H' => Q .non H', rt := Q } (start N vs) H) : FnOk P w K mg base (CXE P w) (k + 1) f fd ps sp := by
  obtain ⟨oc, od, kV, doc, pm, an, cdv, ct, osl, rfl, lk, hcd⟩ := F.ex
  exact fn_of lk hcd S len fun A outer s H vs Q E hr hsp => hbody cdv A outer s H vs Q E hr hsp
end
structure Fn (P : Program) (w : World) (K : PySem.W.Frag) (mg : Str → Option Value) (base : Heap) (x : Str) (k : Nat) (ps : List Str) (sp : Sp) : Prop where
  ex : ∃ (f : Addr) (fd : FuncData), mg x = some (.ref f) ∧ PySem.W.keepIn K (.ref f) = true ∧ Binds K fd ps [] ∧ FnOk P w K mg base (CXE P w) k f fd ps sp
section
variable {X : Cx} {x : Str} {k : Nat} {ps : List Str} {sp : Sp} {E : XK} {e : Expr} {es : List Expr} {t : TA} {p pos : Pos}
theorem pcall (F : Fn X.prog X.w X.K X.mg X.base x k ps sp) (hr : Room k X.A) (hx : Passes (CXE X.prog X.w) X E) (ha : PA X (e :: es) t) (hg : Gl X x := by rfl)
    (hdb : (x == ("__debug__" : Str)) = false := by decide) (he : starEach (e :: es) X.env = (false, eval e X.env) :: starEach es X.env := by rfl) (hpl : (backTo pos (starEach es X.env)).any (·.1) = false := by rfl) :
    PE X (.Call (.Name x p) (e :: es) [] pos) (tCall sp [] E t) := by
  obtain ⟨f, fd, h1, h2, h3, h4⟩ := F.ex
  exact pe_call h4 hr hg h1 h2 h3 .nil hx ha hdb he hpl
theorem pgi {n : Int} (h : ∃ t, X.mg x = some (.int n t)) (hg : Gl X x := by rfl) (hd : (x == ("__debug__" : Str)) = false := by decide) : PE X (.Name x p) (tC (.int n)) :=
  let ⟨t, e⟩ := h; pe_glob hg e ⟨t, rfl⟩ hd
theorem pgs {y : Str} (h : ∃ t, X.mg x = some (.str y t)) (hg : Gl X x := by rfl) (hd : (x == ("__debug__" : Str)) = false := by decide) : PE X (.Name x p) (tC (.str y)) :=
  let ⟨t, e⟩ := h; pe_glob hg e ⟨t, rfl⟩ hd
theorem pgr {a : Addr} (h : X.mg x = some (.ref a)) (hg : Gl X x := by rfl) (hd : (x == ("__debug__" : Str)) = false := by decide) : PE X (.Name x p) (tC (.ref a)) := pe_glob hg h rfl hd
theorem plen_seq (hm : X.mg "len" = none) (ha : PE X e te) (hg : Gl X "len" := by rfl) (he : starEach [e] X.env = (false, eval e X.env) :: starEach [] X.env := by rfl) (hpl : (backTo pos (starEach [] X.env)).any (·.1) = false := by rfl) :
    PE X (.Call (.Name "len" p) [e] [] pos) (tCB (fun xs H Q => ∃ p ys, xs = [V.ref p] ∧ (SqL X.K H p ys ∨ SqT X.K H p ys) ∧ Q (.int ys.length) H) (tCons te tNil)) :=
  pe_callB call_len_seq hg hm PySem.boot_len (pa_cons ha pa_nil he) (he := he) (hpl := hpl)
end
end L2

namespace TbP
open PySem PySem.Spec PyProof.Rows L2

noncomputable def top (i : Nat) : Stmt := PySem.Challenge.pw_tablesteps_s01_read.main.body.getD i (.Pass ⟨0, 0, 0, 0⟩)
noncomputable abbrev sCut : Stmt := top 17
noncomputable abbrev sDig : Stmt := top 18
noncomputable abbrev sLet : Stmt := top 19
noncomputable abbrev sSign : Stmt := top 20
noncomputable abbrev sWord : Stmt := top 21
noncomputable abbrev sSize : Stmt := top 38
noncomputable abbrev sWhole : Stmt := top 39
noncomputable abbrev sGcd : Stmt := top 32
noncomputable abbrev sFrac : Stmt := top 40
noncomputable abbrev sPlain : Stmt := top 41
noncomputable abbrev sEsc : Stmt := top 42
noncomputable abbrev sUnesc : Stmt := top 43
noncomputable abbrev sText : Stmt := top 44
noncomputable abbrev sTruth : Stmt := top 45
noncomputable abbrev sCell : Stmt := top 46
noncomputable abbrev sName : Stmt := top 27
noncomputable abbrev sSort : Stmt := top 28
noncomputable abbrev sCol : Stmt := top 29
noncomputable abbrev sCols : Stmt := top 30
noncomputable abbrev sTabInit : Stmt := inClass (top 49) 0
noncomputable abbrev sFltInit : Stmt := inClass (top 50) 0
noncomputable abbrev sCells : Stmt := top 51
noncomputable abbrev sRow : Stmt := top 52
noncomputable abbrev sLine : Stmt := top 53
noncomputable abbrev sTable : Stmt := top 54
noncomputable abbrev sChk : Stmt := top 58
noncomputable abbrev sRead : Stmt := top 64

noncomputable def bs (b : WrTabs.Bytes) : List V := b.map fun c => V.int (c.toNat : Int)
theorem bs_length (b : WrTabs.Bytes) : (bs b).length = b.length := List.length_map _
theorem bs_get {b : WrTabs.Bytes} {i : Nat} {x : V} (h : (bs b)[i]? = some x) : ∃ c, b[i]? = some c ∧ x = .int (c.toNat : Int) := by
  unfold bs at h
  rw [List.getElem?_map] at h
  cases e : b[i]? with
  | none => rw [e] at h; cases h
  | some c => rw [e] at h; exact ⟨c, rfl, (Option.some.inj h).symm⟩
theorem take_snoc {α : Type} {l : List α} {i : Nat} {x : α} (h : l[i]? = some x) : l.take (i + 1) = l.take i ++ [x] := by
  rw [List.take_succ, h]; rfl

structure Txt (mg : Str → Option Value) : Prop where
  lineEnd : ∃ t, mg "LINE_END" = some (.int 10 t)
  quote : ∃ t, mg "QUOTE" = some (.int 34 t)
  comma : ∃ t, mg "COMMA" = some (.int 44 t)
  minus : ∃ t, mg "MINUS" = some (.int 45 t)
  slash : ∃ t, mg "SLASH" = some (.int 47 t)
  d0 : ∃ t, mg "DIGIT_0" = some (.int 48 t)
  d9 : ∃ t, mg "DIGIT_9" = some (.int 57 t)
  colon : ∃ t, mg "COLON" = some (.int 58 t)
  back : ∃ t, mg "BACKSLASH" = some (.int 92 t)
  under : ∃ t, mg "UNDERLINE" = some (.int 95 t)
  la : ∃ t, mg "LETTER_A" = some (.int 97 t)
  ln : ∃ t, mg "LETTER_N" = some (.int 110 t)
  lz : ∃ t, mg "LETTER_Z" = some (.int 122 t)
  digits : ∃ t, mg "DIGITS" = some (.str "0123456789" t)
  letters : ∃ t, mg "LETTERS" = some (.str "abcdefghijklmnopqrstuvwxyz" t)
  mostDigits : ∃ t, mg "MOST_DIGITS" = some (.int 400 t)
  longText : ∃ t, mg "LONGEST_TEXT" = some (.int 1000 t)
  leastPlain : ∃ t, mg "LEAST_PLAIN" = some (.int 32 t)
  mostPlain : ∃ t, mg "GREATEST_PLAIN" = some (.int 126 t)
  longName : ∃ t, mg "LONGEST_NAME" = some (.int 31 t)
  mostCols : ∃ t, mg "MOST_COLUMNS" = some (.int 32 t)
  mostRows : ∃ t, mg "MOST_ROWS" = some (.int 400 t)
  answered : ∃ t, mg "ANSWERED" = some (.int 0 t)
  refused : ∃ t, mg "REFUSED" = some (.int 9 t)
  tooLong : ∃ t, mg "TOO_LONG" = some (.int 1 t)
  noTable : ∃ t, mg "NO_TABLE" = some (.int 2 t)
  mostBytes : ∃ t, mg "MOST_BYTES" = some (.int 65536 t)
  len : mg "len" = none
  abs : mg "abs" = none
  tuple : mg "tuple" = none
  set : mg "set" = none
  enumerate : mg "enumerate" = none
  zip : mg "zip" = none

section
variable {P : Program} {w : World} {K : PySem.W.Frag} {mg : Str → Option Value} {base : Heap}

noncomputable def spDig : Sp := fun vs H Q _ => ∃ c : UInt8, vs = [.int (c.toNat : Int)] ∧ Q (.bl (WrTabs.isDigit c)) H
noncomputable def spLet : Sp := fun vs H Q _ => ∃ c : UInt8, vs = [.int (c.toNat : Int)] ∧ Q (.bl (WrTabs.isSmall c)) H
theorem le8 (a c : UInt8) : decide ((a.toNat : Int) ≤ (c.toNat : Int)) = decide (a ≤ c) := by
  by_cases h : a ≤ c
  · rw [decide_eq_true h]; exact decide_eq_true (Int.ofNat_le.mpr (UInt8.le_iff_toNat_le.mp h))
  · rw [decide_eq_false h]; exact decide_eq_false fun z => h (UInt8.le_iff_toNat_le.mpr (Int.ofNat_le.mp z))
theorem scDig : FnScope ["byte"] ["byte"] (defScope sDig) := ⟨rfl, rfl, rfl, by decide +kernel, rfl, by decide +kernel, by decide +kernel⟩
theorem ok_dig {f : Addr} {fd : FuncData} (F : Fun K "is_digit" "is_digit" sDig f fd) (T : Txt mg) : FnOk P w K mg base (CXE P w) 1 f fd ["byte"] spDig := by
  refine F.okE scDig (fun vs H Q E h => ?_) (fun cdv A outer s H vs Q E hr h => ?_)
  · obtain ⟨c, rfl, _⟩ := h
    rfl
  · obtain ⟨c, rfl, k⟩ := h
    refine ⟨_, pss_one (ps_ret (pe_and (pe_cmpR op_le (pgi T.d0) (pv 0) (nomark _)) (pe_one (pe_cmpR op_le (pv 0) (pgi T.d9) (nomark _))))), ?_⟩
    refine ⟨_, rfl, _, _, rfl, rfl, _, rfl, ?_⟩
    have e1 := le8 48 c
    have e2 := le8 c 57
    have z : WrTabs.isDigit c = (decide ((48 : Int) ≤ (c.toNat : Int)) && decide ((c.toNat : Int) ≤ 57)) := by
      unfold WrTabs.isDigit
      rw [← e1, ← e2]
      rfl
    rw [z] at k
    cases h1 : decide ((48 : Int) ≤ (c.toNat : Int)) with
    | true =>
      rw [h1] at k
      exact iteT ⟨_, rfl, _, _, rfl, rfl, k⟩
    | false =>
      rw [h1] at k
      exact iteF k
theorem scLet : FnScope ["byte"] ["byte"] (defScope sLet) := ⟨rfl, rfl, rfl, by decide +kernel, rfl, by decide +kernel, by decide +kernel⟩
theorem ok_let {f : Addr} {fd : FuncData} (F : Fun K "is_letter" "is_letter" sLet f fd) (T : Txt mg) : FnOk P w K mg base (CXE P w) 1 f fd ["byte"] spLet := by
  refine F.okE scLet (fun vs H Q E h => ?_) (fun cdv A outer s H vs Q E hr h => ?_)
  · obtain ⟨c, rfl, _⟩ := h
    rfl
  · obtain ⟨c, rfl, k⟩ := h
    refine ⟨_, pss_one (ps_ret (pe_and (pe_cmpR op_le (pgi T.la) (pv 0) (nomark _)) (pe_one (pe_cmpR op_le (pv 0) (pgi T.lz) (nomark _))))), ?_⟩
    refine ⟨_, rfl, _, _, rfl, rfl, _, rfl, ?_⟩
    have e1 := le8 97 c
    have e2 := le8 c 122
    have z : WrTabs.isSmall c = (decide ((97 : Int) ≤ (c.toNat : Int)) && decide ((c.toNat : Int) ≤ 122)) := by
      unfold WrTabs.isSmall
      rw [← e1, ← e2]
      rfl
    rw [z] at k
    cases h1 : decide ((97 : Int) ≤ (c.toNat : Int)) with
    | true =>
      rw [h1] at k
      exact iteT ⟨_, rfl, _, _, rfl, rfl, k⟩
    | false =>
      rw [h1] at k
      exact iteF k
end
end TbP

namespace L2
open PySem PySem.Spec PyProof.Rows
theorem Same.upd {H H' : Hp} {p : Addr} {o : HO} (e : Same H H') (n : H p = none) : Same H (L2.upd H' p o) := fun b u z => by
  rw [upd_ne (ne_of_none z n)]
  exact e b u z
theorem Same.new {H : Hp} {p : Addr} {o : HO} (n : H p = none) : Same H (L2.upd H p o) := (Same.refl H).upd n
end L2
namespace TbP
open PySem PySem.Spec PyProof.Rows L2
structure Lnr (K : PySem.W.Frag) (mg : Str → Option Value) (CL : Addr) (mL : Str → Option Value) : Prop where
  cls : XCls K CL mL
  ni : mL "__init__" = none
  mg : mg "LineNotRight" = some (.ref CL)

section
variable {P : Program} {w : World} {K : PySem.W.Frag} {mg : Str → Option Value} {base : Heap} {CL : Addr} {mL : Str → Option Value}

noncomputable def sgn (c : UInt8) : Str := ⟨#[c.toNat]⟩
noncomputable def spSign (CL : Addr) : Sp := fun vs H Q E => ∃ c : UInt8, vs = [.int (c.toNat : Int)] ∧ (WrTabs.isWordByte c = true → Q (.str (sgn c)) H) ∧ (WrTabs.isWordByte c = false → E (.ref CL) none H)
theorem let_at {c : UInt8} (h : WrTabs.isSmall c = true) : atI ("abcdefghijklmnopqrstuvwxyz" : Str).cps.toList ((c.toNat : Int) - 97) = some c.toNat := by
  have key : ∀ n : Nat, n < 26 → atI ("abcdefghijklmnopqrstuvwxyz" : Str).cps.toList ((n : Int)) = some (n + 97) := by decide +kernel
  simp only [WrTabs.isSmall, Bool.and_eq_true, decide_eq_true_eq] at h
  have h1 := UInt8.le_iff_toNat_le.mp h.1
  have h2 := UInt8.le_iff_toNat_le.mp h.2
  have e1 : (97 : UInt8).toNat = 97 := rfl
  have e2 : (122 : UInt8).toNat = 122 := rfl
  have := key (c.toNat - 97) (by omega)
  have e3 : (((c.toNat - 97 : Nat)) : Int) = (c.toNat : Int) - 97 := by omega
  rw [e3] at this
  rw [this]
  congr 1
  omega
theorem dig_at {c : UInt8} (h : WrTabs.isDigit c = true) : atI ("0123456789" : Str).cps.toList ((c.toNat : Int) - 48) = some c.toNat := by
  have key : ∀ n : Nat, n < 10 → atI ("0123456789" : Str).cps.toList ((n : Int)) = some (n + 48) := by decide +kernel
  simp only [WrTabs.isDigit, Bool.and_eq_true, decide_eq_true_eq] at h
  have h1 := UInt8.le_iff_toNat_le.mp h.1
  have h2 := UInt8.le_iff_toNat_le.mp h.2
  have e1 : (48 : UInt8).toNat = 48 := rfl
  have e2 : (57 : UInt8).toNat = 57 := rfl
  have := key (c.toNat - 48) (by omega)
  have e3 : (((c.toNat - 48 : Nat)) : Int) = (c.toNat : Int) - 48 := by omega
  rw [e3] at this
  rw [this]
  congr 1
  omega
theorem eq8 (a c : UInt8) : (V.int (c.toNat : Int) = V.int (a.toNat : Int)) ↔ c = a := by
  constructor
  · intro h
    injection h with h
    exact UInt8.toNat_inj.mp (Int.ofNat.inj h)
  · rintro rfl; rfl
theorem eqB (n : Int) (a c : UInt8) (hn : (a.toNat : Int) = n) : decide (V.int (c.toNat : Int) = V.int n) = decide (c = a) := by
  subst hn
  by_cases h : c = a
  · rw [decide_eq_true h, decide_eq_true ((eq8 a c).mpr h)]
  · rw [decide_eq_false h, decide_eq_false fun z => h ((eq8 a c).mp z)]
theorem scSign : FnScope ["byte"] ["byte"] (defScope sSign) := ⟨rfl, rfl, rfl, by decide +kernel, rfl, by decide +kernel, by decide +kernel⟩
theorem ok_sign {f : Addr} {fd : FuncData} (F : Fun K "word_sign" "word_sign" sSign f fd) (T : Txt mg) (L : Lnr K mg CL mL) (GL : Fn P w K mg base "is_letter" 1 ["byte"] spLet) (GD : Fn P w K mg base "is_digit" 1 ["byte"] spDig) :
    FnOk P w K mg base (CXE P w) 2 f fd ["byte"] (spSign CL) := by
  refine F.okE scSign (fun vs H Q E h => ?_) (fun cdv A outer s H vs Q E hr h => ?_)
  · obtain ⟨c, rfl, _⟩ := h
    rfl
  · obtain ⟨c, rfl, k1, k2⟩ := h
    refine ⟨_, pss_cons (ps_if (pt_val (pcall GL hr (passE (E := E) fun _ _ _ z => z) (pa_cons (pv 0) pa_nil))) (pss_one (ps_ret (pe_ix ix_str (pgs T.letters) (pe_op op_sub (pv 0) (pgi T.la)) (fun _ _ => rfl)))) pss_nil)
      (pss_cons (ps_if (pt_val (pcall GD hr (passE (E := E) fun _ _ _ z => z) (pa_cons (pv 0) pa_nil))) (pss_one (ps_ret (pe_ix ix_str (pgs T.digits) (pe_op op_sub (pv 0) (pgi T.d0)) (fun _ _ => rfl)))) pss_nil)
      (pss_cons (ps_if (pt_cmpR op_eq (pv 0) (pgi T.under) (nomark _)) (pss_one (ps_ret pe_str)) pss_nil)
      (pss_one (ps_raise0 L.cls L.ni throws_cx rfl rfl rfl L.mg)))), ?_⟩
    refine ⟨_, rfl, c, rfl, _, rfl, ?_⟩
    cases hs : WrTabs.isSmall c with
    | true => exact iteT ⟨_, rfl, _, _, rfl, rfl, _, _, c.toNat, rfl, rfl, (by decide), let_at hs, k1 (by simp [WrTabs.isWordByte, hs])⟩
    | false =>
      refine iteF ⟨_, rfl, c, rfl, _, rfl, ?_⟩
      cases hd : WrTabs.isDigit c with
      | true => exact iteT ⟨_, rfl, _, _, rfl, rfl, _, _, c.toNat, rfl, rfl, (by decide), dig_at hd, k1 (by simp [WrTabs.isWordByte, hd])⟩
      | false =>
        refine iteF ⟨_, rfl, rfl, _, rfl, ?_⟩
        rw [eqB 95 95 c rfl]
        by_cases hu : c = 95
        · rw [decide_eq_true hu]
          refine iteT ?_
          have := k1 (by simp [WrTabs.isWordByte, hu])
          rw [hu] at this
          exact this
        · rw [decide_eq_false hu]
          exact iteF (k2 (by simp [WrTabs.isWordByte, hs, hd, hu]))
end
end TbP

namespace TbP
open PySem PySem.Spec PyProof.Rows L2
inductive All2 {α β : Type} (R : α → β → Prop) : List α → List β → Prop where
  | nil : All2 R [] []
  | cons {a : α} {b : β} {l : List α} {m : List β} : R a b → All2 R l m → All2 R (a :: l) (b :: m)
theorem All2.len {α β : Type} {R : α → β → Prop} {l : List α} {m : List β} (h : All2 R l m) : l.length = m.length := by
  induction h with
  | nil => rfl
  | cons _ _ ih => exact congrArg (· + 1) ih
theorem All2.mono {α β : Type} {R S : α → β → Prop} {l : List α} {m : List β} (h : All2 R l m) (k : ∀ a b, R a b → S a b) : All2 S l m := by
  induction h with
  | nil => exact .nil
  | cons r _ ih => exact .cons (k _ _ r) ih
theorem All2.snoc {α β : Type} {R : α → β → Prop} {l : List α} {m : List β} {a : α} {b : β} (h : All2 R l m) (r : R a b) : All2 R (l ++ [a]) (m ++ [b]) := by
  induction h with
  | nil => exact .cons r .nil
  | cons q _ ih => exact .cons q ih
theorem All2.get {α β : Type} {R : α → β → Prop} {l : List α} {m : List β} (h : All2 R l m) : ∀ {i : Nat} {a : α}, l[i]? = some a → ∃ b, m[i]? = some b ∧ R a b := by
  induction h with
  | nil => intro i a e; cases e
  | cons q _ ih =>
    intro i a e
    cases i with
    | zero => cases e; exact ⟨_, rfl, q⟩
    | succ j => exact ih e
theorem All2.last {α β : Type} {R : α → β → Prop} {l : List α} {m : List β} (h : All2 R l m) : All2 R l.dropLast m.dropLast := by
  induction h with
  | nil => exact .nil
  | cons r t ih =>
    cases t with
    | nil => exact .nil
    | cons r2 t2 => exact .cons r ih

noncomputable def refs (as : List Addr) : List V := as.map V.ref
noncomputable def Pcs (H : Hp) (l : Addr) (as : List Addr) (ps : List WrTabs.Bytes) : Prop := H l = some (.lst (refs as)) ∧ All2 (fun a p => H a = some (.lst (bs p))) as ps
structure Cut (H0 H : Hp) (p q : Addr) (as : List Addr) (ps : List WrTabs.Bytes) (pc : WrTabs.Bytes) : Prop where
  same : Same H0 H
  np : H0 p = none
  nq : H0 q = none
  hp : H p = some (.lst (refs as))
  hq : H q = some (.lst (bs pc))
  pq : p ≠ q
  all : All2 (fun a x => H a = some (.lst (bs x)) ∧ a ≠ q ∧ a ≠ p) as ps
theorem bs_snoc (b : WrTabs.Bytes) (c : UInt8) : bs (b ++ [c]) = bs b ++ [.int (c.toNat : Int)] := by
  unfold bs; rw [List.map_append]; rfl
theorem refs_snoc (as : List Addr) (a : Addr) : refs (as ++ [a]) = refs as ++ [.ref a] := by unfold refs; rw [List.map_append]; rfl
theorem refs_length (as : List Addr) : (refs as).length = as.length := List.length_map _
theorem Cut.add {H0 H : Hp} {p q : Addr} {as : List Addr} {ps : List WrTabs.Bytes} {pc : WrTabs.Bytes} (C : Cut H0 H p q as ps pc) (c : UInt8) : Cut H0 (upd H q (.lst (bs pc ++ [.int (c.toNat : Int)]))) p q as ps (pc ++ [c]) :=
  ⟨C.same.upd C.nq, C.np, C.nq, by rw [upd_ne C.pq]; exact C.hp, by rw [upd_same, bs_snoc], C.pq, C.all.mono fun a x h => ⟨by rw [upd_ne h.2.1]; exact h.1, h.2⟩⟩
theorem Cut.cut {H0 H : Hp} {p q r : Addr} {as : List Addr} {ps : List WrTabs.Bytes} {pc : WrTabs.Bytes} (C : Cut H0 H p q as ps pc) (hr : (upd H p (.lst (refs as ++ [.ref q]))) r = none) :
    Cut H0 (upd (upd H p (.lst (refs as ++ [.ref q]))) r (.lst [])) p r (as ++ [q]) (ps ++ [pc]) [] := by
  have rp : r ≠ p := fun e => by rw [e, upd_same] at hr; cases hr
  rw [upd_ne rp] at hr
  have rq : q ≠ r := ne_of_none C.hq hr
  refine ⟨(C.same.upd C.np).upd (C.same.free hr), C.np, C.same.free hr, ?_, upd_same, fun e => rp e.symm, (All2.mono C.all fun a x h => ?_).snoc ?_⟩
  · rw [upd_ne fun e => rp e.symm, upd_same, refs_snoc]
  · have ar : a ≠ r := ne_of_none h.1 hr
    exact ⟨by rw [upd_ne ar, upd_ne h.2.2]; exact h.1, ar, h.2.2⟩
  · exact ⟨by rw [upd_ne rq, upd_ne C.pq.symm]; exact C.hq, rq, C.pq.symm⟩
theorem Cut.done {H0 H : Hp} {p q : Addr} {as : List Addr} {ps : List WrTabs.Bytes} {pc : WrTabs.Bytes} (C : Cut H0 H p q as ps pc) :
    Same H0 (upd H p (.lst (refs as ++ [.ref q]))) ∧ Pcs (upd H p (.lst (refs as ++ [.ref q]))) p (as ++ [q]) (ps ++ [pc]) ∧ p ∉ as ++ [q] := by
  refine ⟨C.same.upd C.np, ⟨by rw [upd_same, refs_snoc], (All2.mono C.all fun a x h => ?_).snoc ?_⟩, ?_⟩
  · rw [upd_ne h.2.2]; exact h.1
  · rw [upd_ne C.pq.symm]; exact C.hq
  · intro h
    (rcases List.mem_append.mp h with h | h)
    · obtain ⟨i, hi⟩ := List.getElem?_of_mem h
      obtain ⟨x, _, _, _, ne⟩ := C.all.get hi
      exact ne rfl
    · exact C.pq (List.mem_singleton.mp h)
theorem Cut.start {H0 : Hp} {p q : Addr} (hp : H0 p = none) (hq : (upd H0 p (.lst [])) q = none) : Cut H0 (upd (upd H0 p (.lst [])) q (.lst [])) p q [] [] [] := by
  have qp : q ≠ p := fun e => by rw [e, upd_same] at hq; cases hq
  rw [upd_ne qp] at hq
  exact ⟨(Same.new hp).upd hq, hp, hq, by rw [upd_ne qp.symm]; exact upd_same, upd_same, qp.symm, .nil⟩
theorem get_le {α : Type} {l : List α} {i : Nat} {x : α} (h : l[i]? = some x) : i < l.length := by
  rcases Nat.lt_or_ge i l.length with z | z
  · exact z
  · rw [List.getElem?_eq_none z] at h; cases h

section
variable {P : Program} {w : World} {K : PySem.W.Frag} {mg : Str → Option Value} {base : Heap} {CL : Addr} {mL : Str → Option Value}
noncomputable def spCut (K : PySem.W.Frag) : Sp := fun vs H Q _ => ∃ (a : Addr) (b : WrTabs.Bytes) (m : UInt8), vs = [.ref a, .int (m.toNat : Int)] ∧ SqL K H a (bs b) ∧ b.length ≤ 66000 ∧
  ∀ l as H', H l = none → Same H H' → Pcs H' l as (Tb.cutAt m b) → l ∉ as → Q (.ref l) H'
theorem cut_bound (m : UInt8) (b : WrTabs.Bytes) : (b.foldl (Tb.cutStep m) ([], [])).1.length ≤ b.length ∧ (b.foldl (Tb.cutStep m) ([], [])).2.length ≤ b.length := by
  have key : ∀ (b : WrTabs.Bytes) (ps : List WrTabs.Bytes) (pc : WrTabs.Bytes), (b.foldl (Tb.cutStep m) (ps, pc)).1.length ≤ ps.length + b.length ∧ (b.foldl (Tb.cutStep m) (ps, pc)).2.length ≤ pc.length + b.length := by
    intro b
    induction b with
    | nil => intro ps pc; exact ⟨Nat.le_refl _, Nat.le_refl _⟩
    | cons c r ih =>
      intro ps pc
      rw [List.foldl_cons]
      by_cases h : c = m
      · have := ih (ps ++ [pc]) []
        simp only [Tb.cutStep, h, if_true, List.length_append, List.length_cons, List.length_nil] at this ⊢
        omega
      · have := ih ps (pc ++ [c])
        simp only [Tb.cutStep, h, if_false, List.length_append, List.length_cons, List.length_nil] at this ⊢
        omega
  have := key b [] []
  simpa using this
theorem sq_lst {K : PySem.W.Frag} {H : Hp} {a : Addr} {xs : List V} (h : H a = some (.lst xs)) : SqL K H a xs := SqL.of h
theorem scCut : FnScope ["row", "mark", "pieces", "piece", "byte"] ["row", "mark"] (defScope sCut) := ⟨rfl, rfl, rfl, by decide +kernel, rfl, by decide +kernel, by decide +kernel⟩
theorem ok_cut {f : Addr} {fd : FuncData} (F : Fun K "cut_at" "cut_at" sCut f fd) : FnOk P w K mg base (CXE P w) 1 f fd ["row", "mark"] (spCut K) := by
  refine F.okE scCut (fun vs H Q E h => ?_) (fun cdv A outer s H vs Q E hr h => ?_)
  · obtain ⟨a, b, m, rfl, _⟩ := h
    rfl
  · obtain ⟨a, b, m, rfl, sq, le, k⟩ := h
    have nd : (["row", "mark", "pieces", "piece", "byte"] : List Str).Nodup := by decide +kernel
    refine ⟨_, pss_cons (ps_set (i := 2) nd rfl (Or.inl rfl) (pe_lst pa_nil)) (pss_cons (ps_set (i := 3) nd rfl (Or.inl rfl) (pe_lst pa_nil))
      (pss_cons (ps_for PassesOwn.leaving rfl (pi_list (pv 0)) (pg_name (i := 4) nd rfl (Or.inl rfl))
        (pss_one (ps_if (pt_cmpR op_eq (pv 4) (pv 1) (nomark _))
          (pss_cons (ps_expr (pe_bm PySem.F.plainAttrs_list PySem.F.slot_list_append PySem.F.type_list_append mt_append (pv 2) (pa_cons (pv 3) pa_nil)))
            (pss_one (ps_set (i := 3) nd rfl (Or.inl rfl) (pe_lst pa_nil))))
          (pss_one (ps_expr (pe_bm PySem.F.plainAttrs_list PySem.F.slot_list_append PySem.F.type_list_append mt_append (pv 3) (pa_cons (pv 4) pa_nil)))))))
      (pss_cons (ps_expr (pe_bm PySem.F.plainAttrs_list PySem.F.slot_list_append PySem.F.type_list_append mt_append (pv 2) (pa_cons (pv 3) pa_nil)))
      (pss_one (ps_ret (pv 2)))))), ?_⟩
    refine ⟨Nat.zero_le _, fun p hp => ⟨Nat.zero_le _, fun q hq => ?_⟩⟩
    refine ⟨_, rfl, a, rfl, ⟨bs b, (Cut.start hp hq).same.seq sq⟩, for_list (xs := bs b) (fun i σ H' => ∃ p q as o, σ = [some (.ref a), some (.int (m.toNat : Int)), some (.ref p), some (.ref q), o] ∧ Cut H H' p q as ((b.take i).foldl (Tb.cutStep m) ([], [])).1 ((b.take i).foldl (Tb.cutStep m) ([], [])).2)
      ⟨p, q, [], none, rfl, Cut.start hp hq⟩ ?_ ?_ ?_⟩
    · rintro i σ H' _ ⟨p, q, as, o, rfl, C⟩
      exact C.same.seq sq
    · rintro i x σ H' hx ⟨p, q, as, o, rfl, C⟩
      obtain ⟨c, hc, rfl⟩ := bs_get hx
      have il := get_le hc
      have bd := cut_bound m (b.take i)
      rw [List.length_take] at bd
      have st : (b.take (i + 1)).foldl (Tb.cutStep m) ([], []) = Tb.cutStep m ((b.take i).foldl (Tb.cutStep m) ([], [])) c := by
        rw [take_snoc hc, List.foldl_append]; rfl
      have al := C.all.len
      refine ⟨_, rfl, _, rfl, rfl, _, rfl, ?_⟩
      rw [eqB _ m c rfl]
      have n1 : (refs as).length < sizeLine := by rw [refs_length, al]; unfold sizeLine; omega
      by_cases hcm : c = m
      · rw [decide_eq_true hcm]
        refine iteT ⟨_, rfl, Or.inl ⟨rfl, _, sq_lst C.hp⟩, _, rfl, p, _, _, rfl, rfl, C.hp, n1, Nat.zero_le _, fun r hr' => ?_⟩
        refine ⟨p, r, as ++ [q], _, rfl, ?_⟩
        rw [st]
        unfold Tb.cutStep
        rw [if_pos hcm]
        exact C.cut hr'
      · rw [decide_eq_false hcm]
        refine iteF ⟨_, rfl, Or.inl ⟨rfl, _, sq_lst C.hq⟩, _, rfl, q, _, _, rfl, rfl, C.hq, ?_, ?_⟩
        · rw [bs_length]; unfold sizeLine; omega
        · refine ⟨p, q, as, _, rfl, ?_⟩
          rw [st]
          unfold Tb.cutStep
          rw [if_neg hcm]
          exact C.add c
    · rintro σ H' ⟨p, q, as, o, rfl, C⟩
      have bd := cut_bound m (b.take b.length)
      have al := C.all.len
      rw [bs_length] at C al
      rw [List.take_length] at C bd al
      have n1 : (refs as).length < sizeLine := by rw [refs_length, al]; unfold sizeLine; omega
      refine ⟨_, rfl, Or.inl ⟨rfl, _, sq_lst C.hp⟩, _, rfl, p, _, _, rfl, rfl, C.hp, n1, ?_⟩
      exact ⟨_, rfl, k p _ _ C.np C.done.1 C.done.2.1 C.done.2.2⟩
end
end TbP

namespace TbP
open PySem PySem.Spec PyProof.Rows L2
theorem yes {σ : L2.St} {H : Hp} {Q : Bool → Hp → Prop} (h : Q true H) : tYes σ H Q := h
noncomputable def Ans {α : Type} (r : Option α) (good : α → Prop) (bad : Prop) : Prop := (∀ x, r = some x → good x) ∧ (r = none → bad)
theorem Ans.good {α : Type} {r : Option α} {x : α} {g : α → Prop} {b : Prop} (h : Ans r g b) (e : r = some x) : g x := h.1 x e
theorem Ans.of_some {α : Type} {r : Option α} {x : α} {g : α → Prop} {b : Prop} (e : r = some x) (h : g x) : Ans r g b := ⟨fun y z => (by rw [e] at z; cases z; exact h), fun z => (by rw [e] at z; cases z)⟩
theorem Ans.of_none {α : Type} {r : Option α} {g : α → Prop} {b : Prop} (e : r = none) (h : b) : Ans r g b := ⟨fun y z => (by rw [e] at z; cases z), fun _ => h⟩
noncomputable def strOf (b : WrTabs.Bytes) : Str := ⟨(b.map fun c => c.toNat).toArray⟩
theorem join_sgn (b : WrTabs.Bytes) : Txt.join "" (b.map sgn) = strOf b := by
  have e : TL.tl (Txt.join "" (b.map sgn)) = TL.tl (strOf b) := by
    rw [TL.join_eq, TL.tl_join]
    have : ∀ b : WrTabs.Bytes, TL.joinL (TL.tl "") ((b.map sgn).map TL.tl) = b.map fun c => c.toNat := by
      intro b
      induction b with
      | nil => rfl
      | cons c r ih =>
        cases r with
        | nil => rfl
        | cons d r =>
          show TL.tl (sgn c) ++ ([] ++ TL.joinL (TL.tl "") (((d :: r).map sgn).map TL.tl)) = _
          rw [ih]
          rfl
    rw [this]
    rfl
  have ext : ∀ x y : Str, TL.tl x = TL.tl y → x = y := by
    rintro ⟨⟨x⟩⟩ ⟨⟨y⟩⟩ h
    have : x = y := h
    rw [this]
  exact ext _ _ e
section
variable {P : Program} {w : World} {K : PySem.W.Frag} {mg : Str → Option Value} {base : Heap} {CL : Addr} {mL : Str → Option Value}
noncomputable def spWord (K : PySem.W.Frag) (CL : Addr) : Sp := fun vs H Q E => ∃ (a : Addr) (b : WrTabs.Bytes), vs = [.ref a] ∧ SqL K H a (bs b) ∧ b.length ≤ 66000 ∧
  ∀ H', Same H H' → Ans (Tb.wordOf b) (fun x => Q (.str (strOf x)) H') (E (.ref CL) none H')
theorem scWord : FnScope ["row", "byte"] ["row"] (defScope sWord) := ⟨rfl, rfl, rfl, by decide +kernel, rfl, by decide +kernel, by decide +kernel⟩
theorem ok_word {f : Addr} {fd : FuncData} (F : Fun K "word_of" "word_of" sWord f fd) (G : Fn P w K mg base "word_sign" 2 ["byte"] (spSign CL)) : FnOk P w K mg base (CXE P w) 3 f fd ["row"] (spWord K CL) := by
  refine F.okE scWord (fun vs H Q E h => ?_) (fun cdv A outer s H vs Q E hr h => ?_)
  · obtain ⟨a, b, rfl, _⟩ := h
    rfl
  · obtain ⟨a, b, rfl, sq, le, k⟩ := h
    have nd : (["row", "byte"] : List Str).Nodup := by decide +kernel
    refine ⟨_, pss_one (ps_ret (pe_join pe_str (pe_lcx (E := E) leaveE rfl rfl rfl rfl nd (pi_list (pv 0)) (blkOk_by (own := [("byte", 1)]) rfl)
      (fun _ _ _ _ _ => pg_name (i := 1) nd rfl (Or.inl rfl)) (fun _ _ _ _ _ => pts_nil) (fun _ _ _ _ _ => pcall G hr (passB fun _ _ _ z => z) (pa_cons (pv 1) pa_nil))))), ?_⟩
    refine ⟨⟨_, rfl⟩, _, rfl, a, rfl, ⟨bs b, sq⟩, fun D hD => lc_list (xs := bs b) (fun i H1 => Same H H1 ∧ H1 D = some (.lst ((b.take i).map fun c => V.str (sgn c))) ∧ (b.take i).all WrTabs.isWordByte = true)
      ⟨Same.new hD, upd_same, rfl⟩ ?_ ?_ ?_⟩
    · rintro i H1 _ ⟨s1, _, _⟩
      exact s1.seq sq
    · rintro i x H1 hx ⟨s1, d1, w1⟩
      obtain ⟨c, hc, rfl⟩ := bs_get hx
      have il := get_le hc
      refine ⟨rfl, yes ?_⟩
      refine iteT ⟨_, rfl, c, rfl, fun hw => ⟨_, d1, ?_, s1.upd hD, ?_, ?_⟩, fun hw => ?_⟩
      · rw [List.length_map, List.length_take]; unfold sizeLine; omega
      · rw [upd_same, take_snoc hc, List.map_append]; rfl
      · rw [take_snoc hc, List.all_append, w1]; simp [hw]
      · exact (k H1 s1).2 (by
          unfold Tb.wordOf
          rw [if_neg]
          intro z
          have := List.all_eq_true.mp z c (List.mem_of_getElem? hc)
          rw [hw] at this; cases this)
    · rintro H1 ⟨s1, d1, w1⟩
      rw [bs_length, List.take_length] at d1 w1
      have jn := join_sgn b
      refine ⟨_, D, b.map sgn, rfl, rfl, .inl (sq_lst (by rw [d1, List.map_map]; rfl)), ?_, ?_⟩
      · have : ∀ b : WrTabs.Bytes, ((b.map sgn).map (·.length)).sum = b.length := by
          intro b
          induction b with
          | nil => rfl
          | cons c r ih => simp only [List.map_cons, List.sum_cons, ih, List.length_cons]; show 1 + _ = _; omega
        rw [this, List.length_map]
        show b.length + b.length * 0 ≤ _
        omega
      · rw [jn]
        exact (k H1 s1).1 b (by unfold Tb.wordOf; rw [if_pos w1])
end
end TbP

namespace TbP
open PySem PySem.Spec PyProof.Rows L2
theorem decI (m n : Int) : decide (V.int m = V.int n) = decide (m = n) := by
  by_cases h : m = n
  · rw [decide_eq_true h, h]; exact decide_eq_true rfl
  · rw [decide_eq_false h]; exact decide_eq_false fun z => h (by injection z)
theorem iteD {c : Prop} [Decidable c] {A B : Prop} (h1 : c → A) (h2 : ¬ c → B) : if decide c = true then A else B :=
  ite2 (fun z => h1 (of_decide_eq_true z)) (fun z => h2 fun y => z (decide_eq_true y))
section
variable {P : Program} {w : World} {K : PySem.W.Frag} {mg : Str → Option Value} {base : Heap} {CL : Addr} {mL : Str → Option Value}
noncomputable def spSize (K : PySem.W.Frag) (CL : Addr) : Sp := fun vs H Q E => ∃ (a : Addr) (b : WrTabs.Bytes), vs = [.ref a] ∧ SqL K H a (bs b) ∧ b.length ≤ 66000 ∧
  Ans (Tb.readSize b) (fun n => Q (.int (n : Int)) H) (E (.ref CL) none H)
theorem size_snoc (d : WrTabs.Bytes) (c : UInt8) : Tb.sizeVal (d ++ [c]) = Tb.sizeVal d * 10 + (c.toNat - 48) := by
  unfold Tb.sizeVal; rw [List.foldl_append]; rfl
theorem digit_ge {c : UInt8} (h : WrTabs.isDigit c = true) : 48 ≤ c.toNat := by
  simp only [WrTabs.isDigit, Bool.and_eq_true, decide_eq_true_eq] at h
  exact UInt8.le_iff_toNat_le.mp h.1
theorem scSize : FnScope ["row", "size", "byte"] ["row"] (defScope sSize) := ⟨rfl, rfl, rfl, by decide +kernel, rfl, by decide +kernel, by decide +kernel⟩
theorem ok_size {f : Addr} {fd : FuncData} (F : Fun K "read_size" "read_size" sSize f fd) (T : Txt mg) (L : Lnr K mg CL mL) (GD : Fn P w K mg base "is_digit" 1 ["byte"] spDig) : FnOk P w K mg base (CXE P w) 2 f fd ["row"] (spSize K CL) := by
  refine F.okE scSize (fun vs H Q E h => ?_) (fun cdv A outer s H vs Q E hr h => ?_)
  · obtain ⟨a, b, rfl, _⟩ := h
    rfl
  · obtain ⟨a, b, rfl, sq, le, k⟩ := h
    have nd : (["row", "size", "byte"] : List Str).Nodup := by decide +kernel
    refine ⟨_, pss_cons (ps_if (PW.pt (pw_or (pt_cmpR op_eq (plen_seq T.len (pv 0)) pe_int (nomark _)) (pw_or1 (pt_cmpR op_gt (plen_seq T.len (pv 0)) (pgi T.mostDigits) (nomark _)))))
        (pss_one (ps_raise0 L.cls L.ni throws_cx rfl rfl rfl L.mg)) pss_nil)
      (pss_cons (ps_if (PW.pt (pw_and (pt_cmpR op_eq (pe_ix ix_list (pv 0) pe_int (fun _ _ => rfl)) (pgi T.d0) (nomark _)) (pw_and1 (pt_cmpR op_gt (plen_seq T.len (pv 0)) pe_int (nomark _)))))
        (pss_one (ps_raise0 L.cls L.ni throws_cx rfl rfl rfl L.mg)) pss_nil)
      (pss_cons (ps_set (i := 1) nd rfl (Or.inl rfl) pe_int)
      (pss_cons (ps_for PassesOwn.leaving rfl (pi_list (pv 0)) (pg_name (i := 2) nd rfl (Or.inl rfl))
        (pss_cons (ps_if (pt_not (pt_val (pcall GD hr (passE (E := E) fun _ _ _ z => z) (pa_cons (pv 2) pa_nil)))) (pss_one (ps_raise0 L.cls L.ni throws_cx rfl rfl rfl L.mg)) pss_nil)
          (pss_one (ps_set (i := 1) nd rfl (Or.inl rfl) (pe_op op_sub (pe_op op_add (pe_op op_mul (pv 1) pe_int) (pv 2)) (pgi T.d0))))))
      (pss_one (ps_ret (pv 1)))))), ?_⟩
    refine ⟨_, rfl, a, _, rfl, .inl sq, rfl, _, rfl, ?_⟩
    rw [decI]
    refine iteD (fun h0 => ?_) (fun h0 => ?_)
    · refine iteT (k.2 ?_)
      rw [bs_length] at h0
      unfold Tb.readSize
      rw [if_pos (.inl (List.length_eq_zero_iff.mp (by omega)))]
    refine ⟨_, rfl, a, _, rfl, .inl sq, _, _, rfl, rfl, _, rfl, iteD (fun h1 => ?_) (fun h1 => ?_)⟩
    · rw [bs_length] at h1
      refine k.2 ?_
      unfold Tb.readSize
      rw [if_pos (.inr (by omega))]
    rw [bs_length] at h0 h1
    have n1 : ¬ (b = [] ∨ 400 < b.length) := by
      rintro (z | z)
      · rw [z] at h0; exact h0 rfl
      · omega
    obtain ⟨c0, r, rfl⟩ : ∃ c r, b = c :: r := by
      cases b with
      | nil => exact absurd rfl h0
      | cons c r => exact ⟨c, r, rfl⟩
    refine ⟨_, rfl, a, _, 0, .int (c0.toNat : Int), rfl, rfl, sq, (atI_nat (j := 0) rfl), rfl, _, rfl, ?_⟩
    rw [eqB 48 48 c0 rfl]
    have main : ¬ ((c0 :: r).head? = some 48 ∧ 1 < (c0 :: r).length) → tSeq (tAsg (tC (.int 0)) (gName 1)) (tSeq (tFor (iList K (tVar 0)) (gName 2) (tSeq (tIfS (tNot (tB (tCall spDig [] E (tCons (tVar 2) tNil)))) (tThrow CL E) tNext) (tAsg (tOp (rI0 fun i j => .int (i - j)) (tOp (rI0 fun i j => .int (i + j)) (tOp (rI CMul fun i j => .int (i * j)) (tVar 1) (tC (.int 10))) (tVar 2)) (tC (.int 48))) (gName 1)))) (tRet (tVar 1)))
        { nx := fun _ H' => Q .non H', rt := Q } (start ["row", "size", "byte"] [.ref a]) H := by
      intro n2
      refine ⟨_, rfl, a, rfl, ⟨_, sq⟩, for_list (xs := bs (c0 :: r)) (fun i σ H' => ∃ o, σ = [some (.ref a), some (.int (Tb.sizeVal ((c0 :: r).take i) : Int)), o] ∧ H' = H ∧ ((c0 :: r).take i).all WrTabs.isDigit = true)
        ⟨none, rfl, rfl, rfl⟩ ?_ ?_ ?_⟩
      · rintro i σ H' _ ⟨o, rfl, rfl, _⟩
        exact sq
      · rintro i x σ H' hx ⟨o, rfl, rfl, al⟩
        obtain ⟨c, hc, rfl⟩ := bs_get hx
        refine ⟨_, rfl, c, rfl, _, rfl, ?_⟩
        cases hd : WrTabs.isDigit c with
        | false =>
          refine iteT (k.2 ?_)
          unfold Tb.readSize
          rw [if_neg n1, if_neg n2, if_neg]
          intro z
          have := List.all_eq_true.mp z c (List.mem_of_getElem? hc)
          rw [hd] at this; cases this
        | true =>
          refine iteF ⟨_, rfl, _, _, rfl, rfl, .inr ⟨by decide, by decide⟩, _, rfl, _, _, rfl, rfl, _, _, rfl, rfl, some (.int (c.toNat : Int)), ?_, rfl, ?_⟩
          · rw [take_snoc hc, size_snoc]
            have := digit_ge hd
            have e : ((Tb.sizeVal ((c0 :: r).take i) * 10 + (c.toNat - 48) : Nat) : Int) = (Tb.sizeVal ((c0 :: r).take i) : Int) * 10 + (c.toNat : Int) - 48 := by omega
            rw [e]
            rfl
          · rw [take_snoc hc, List.all_append, al]; simp [hd]
      · rintro σ H' ⟨o, rfl, rfl, al⟩
        rw [bs_length, List.take_length] at al
        refine ⟨_, rfl, ?_⟩
        have := k.1 _ (by
          unfold Tb.readSize
          rw [if_neg n1, if_neg n2, if_pos al])
        rw [bs_length, List.take_length]
        exact this
    refine iteD (fun h2 => ?_) (fun h2 => ?_)
    · refine ⟨_, rfl, a, _, rfl, .inl sq, _, _, rfl, rfl, _, rfl, iteD (fun h3 => ?_) (fun h3 => ?_)⟩
      · refine k.2 ?_
        rw [bs_length] at h3
        unfold Tb.readSize
        rw [if_neg n1, if_pos ⟨by rw [h2]; rfl, by omega⟩]
      · rw [bs_length] at h3
        exact main fun z => h3 (by omega)
    · refine iteF (main fun z => h2 ?_)
      exact Option.some.inj z.1
end
end TbP

namespace TbP
open PySem PySem.Spec PyProof.Rows L2
theorem bs_take (b : WrTabs.Bytes) (n : Nat) : (bs b).take n = bs (b.take n) := by unfold bs; rw [List.map_take]
theorem bs_drop (b : WrTabs.Bytes) (n : Nat) : (bs b).drop n = bs (b.drop n) := by unfold bs; rw [List.map_drop]
theorem cut_to1 (b : WrTabs.Bytes) : cutV (bs b) none (some 1) = bs (b.take 1) := by
  unfold cutV
  show ((bs b).drop 0).take (min 1 (bs b).length - 0) = _
  rw [List.drop_zero, bs_length, Nat.sub_zero, bs_take]
  congr 1
  cases b with
  | nil => rfl
  | cons c r => simp
theorem cut_from1 (b : WrTabs.Bytes) : cutV (bs b) (some 1) none = bs (b.drop 1) := by
  unfold cutV
  show ((bs b).drop (min 1 (bs b).length)).take ((bs b).length - min 1 (bs b).length) = _
  have e : (bs b).drop (min 1 (bs b).length) = bs (b.drop 1) := by
    rw [bs_drop, bs_length]
    cases b with
    | nil => rfl
    | cons c r => congr 2
  rw [e, List.take_of_length_le]
  rw [bs_length, bs_length, List.length_drop]
  omega
theorem cut_mid (b : WrTabs.Bytes) (h : 2 ≤ b.length) : cutV (bs b) (some 1) (some (-1)) = bs (b.drop 1).dropLast := by
  unfold cutV
  have e1 : HT.sIx (bs b).length 0 (some 1) = 1 := by
    show min 1 (bs b).length = 1
    rw [bs_length]; omega
  have e2 : HT.sIx (bs b).length (bs b).length (some (-1)) = b.length - 1 := by
    show (-1 + ((bs b).length : Int)).toNat = _
    rw [bs_length]; omega
  rw [e1, e2, bs_drop, bs_take, List.dropLast_eq_take, List.length_drop]
theorem dp_bs {K : PySem.W.Frag} {H : Hp} : ∀ b : WrTabs.Bytes, DpAll K H (bs b) (b.map fun c => PyData.int (c.toNat : Int))
  | [] => .nil
  | c :: r => .cons (.int _) (dp_bs r)
theorem eqv_one (c : UInt8) : PyData.eqv (.list [.int (c.toNat : Int)]) (.list [.int 45]) = decide (c = 45) := by
  simp only [PyData.eqv, PyData.eqvAll, Bool.and_true]
  have := eqB 45 45 c rfl
  rw [decI] at this
  rw [← this]
  rfl
theorem piece_le (m : UInt8) (N : Nat) : ∀ (b : WrTabs.Bytes) (ps : List WrTabs.Bytes) (pc : WrTabs.Bytes), (∀ p ∈ ps, p.length ≤ N) → pc.length + b.length ≤ N →
    (∀ p ∈ (b.foldl (Tb.cutStep m) (ps, pc)).1, p.length ≤ N) ∧ (b.foldl (Tb.cutStep m) (ps, pc)).2.length ≤ N
  | [], ps, pc, h1, h2 => ⟨h1, h2⟩
  | c :: r, ps, pc, h1, h2 => by
    rw [List.length_cons] at h2
    rw [List.foldl_cons]
    unfold Tb.cutStep
    by_cases h : c = m
    · rw [if_pos h]
      refine piece_le m N r _ _ (fun p hp => ?_) ?_
      · rcases List.mem_append.mp hp with z | z
        · exact h1 p z
        · rw [List.mem_singleton.mp z]; show pc.length ≤ N; omega
      · show ([] : WrTabs.Bytes).length + _ ≤ _; rw [List.length_nil]; omega
    · rw [if_neg h]
      refine piece_le m N r _ _ h1 ?_
      show (pc ++ [c]).length + _ ≤ N
      (rw [List.length_append, List.length_singleton]; omega)
theorem cut_le {m : UInt8} {b p : WrTabs.Bytes} (h : p ∈ Tb.cutAt m b) : p.length ≤ b.length := by
  have := piece_le m b.length b [] [] (fun p z => nomatch z) (by rw [List.length_nil]; omega)
  unfold Tb.cutAt at h
  rcases List.mem_append.mp h with z | z
  · exact this.1 p z
  · rw [List.mem_singleton.mp z]; exact this.2
section
variable {P : Program} {w : World} {K : PySem.W.Frag} {mg : Str → Option Value} {base : Heap} {CL : Addr} {mL : Str → Option Value}
noncomputable def spWhole (K : PySem.W.Frag) (CL : Addr) : Sp := fun vs H Q E => ∃ (a : Addr) (b : WrTabs.Bytes), vs = [.ref a] ∧ SqL K H a (bs b) ∧ b.length ≤ 66000 ∧
  ∀ H', Same H H' → Ans (Tb.readWhole b) (fun n => Q (.int n) H') (E (.ref CL) none H')
theorem scWhole : FnScope ["row", "size"] ["row"] (defScope sWhole) := ⟨rfl, rfl, rfl, by decide +kernel, rfl, by decide +kernel, by decide +kernel⟩
theorem ok_whole {f : Addr} {fd : FuncData} (F : Fun K "read_whole" "read_whole" sWhole f fd) (T : Txt mg) (L : Lnr K mg CL mL) (GS : Fn P w K mg base "read_size" 2 ["row"] (spSize K CL)) : FnOk P w K mg base (CXE P w) 3 f fd ["row"] (spWhole K CL) := by
  refine F.okE scWhole (fun vs H Q E h => ?_) (fun cdv A outer s H vs Q E hr h => ?_)
  · obtain ⟨a, b, rfl, _⟩ := h
    rfl
  · obtain ⟨a, b, rfl, sq, le, k⟩ := h
    have nd : (["row", "size"] : List Str).Nodup := by decide +kernel
    refine ⟨_, pss_cons (ps_if (pt_cmpR (op_neD hr.units) (pe_slice sl_list (pv 0) po_none (po_some pe_int)) (pe_lst (pa_cons (pgi T.minus) pa_nil)) (nomark _))
        (pss_one (ps_ret (pcall GS hr (passE (E := E) fun _ _ _ z => z) (pa_cons (pv 0) pa_nil)))) pss_nil)
      (pss_cons (ps_set (i := 1) nd rfl (Or.inl rfl) (pcall GS hr (passE (E := E) fun _ _ _ z => z) (pa_cons (pe_slice sl_list (pv 0) (po_some pe_int) po_none) pa_nil)))
      (pss_cons (ps_if (pt_cmpR op_eq (pv 1) pe_int (nomark _)) (pss_one (ps_raise0 L.cls L.ni throws_cx rfl rfl rfl L.mg)) pss_nil)
      (pss_one (ps_ret (pe_un un_neg (pv 1)))))), ?_⟩
    refine ⟨_, rfl, _, rfl, a, _, rfl, sq, fun p hp => ⟨by decide, fun q hq => ?_⟩⟩
    rw [cut_to1] at hq ⊢
    have qp : p ≠ q := fun e => by rw [← e, upd_same] at hq; cases hq
    have hq0 : H q = none := by rw [upd_ne qp.symm] at hq; exact hq
    have sm : Same H (upd (upd H p (.lst (bs (b.take 1)))) q (.lst [.int 45])) := (Same.new hp).upd hq0
    refine ⟨.list ((b.take 1).map fun c => .int (c.toNat : Int)), .list [.int 45], .lst (sq_lst (by rw [upd_ne qp, upd_same])) (dp_bs _), .lst (sq_lst upd_same) (.cons (.int _) .nil), ?_, rfl, _, rfl, ?_⟩
    · cases b with
      | nil => rfl
      | cons c r => rfl
    have hq2 : ((PyData.list ((b.take 1).map fun c => PyData.int (c.toNat : Int))).eqv (.list [.int 45])) = decide (b.take 1 = [45]) := by
      cases b with
      | nil => simp [PyData.eqv, PyData.eqvAll]
      | cons c r =>
        show PyData.eqv (.list [.int (c.toNat : Int)]) (.list [.int 45]) = decide ([c] = [45])
        rw [eqv_one]
        simp
    rw [hq2]
    by_cases hm : b.take 1 = [45]
    · rw [decide_eq_true hm]
      refine iteF ⟨_, rfl, _, rfl, a, _, rfl, sm.seq sq, fun r hr' => ?_⟩
      rw [cut_from1]
      have sm2 := sm.upd (o := .lst (bs (b.drop 1))) (sm.free hr')
      refine ⟨r, b.drop 1, rfl, sq_lst upd_same, by rw [List.length_drop]; omega, fun n hn => ?_, fun hn => ?_⟩
      · refine ⟨_, rfl, rfl, _, rfl, ?_⟩
        rw [decI]
        have ek : Tb.readWhole b = if n = 0 then none else some (-(n : Int)) := by
          unfold Tb.readWhole; rw [if_pos hm, hn]; rfl
        refine iteD (fun h0 => ?_) (fun h0 => ?_)
        · exact (k _ sm2).2 (by rw [ek, if_pos (by omega)])
        · exact ⟨_, rfl, _, rfl, (k _ sm2).1 _ (by rw [ek, if_neg (by omega)])⟩
      · exact (k _ sm2).2 (by unfold Tb.readWhole; rw [if_pos hm, hn]; rfl)
    · rw [decide_eq_false hm]
      refine iteT ⟨_, rfl, a, b, rfl, sm.seq sq, le, fun n hn => ?_, fun hn => ?_⟩
      · exact (k _ sm).1 _ (by unfold Tb.readWhole; rw [if_neg hm, hn]; rfl)
      · exact (k _ sm).2 (by unfold Tb.readWhole; rw [if_neg hm, hn]; rfl)
noncomputable def spGcd : Sp := fun vs H Q E => ∃ m n : Nat, vs = [.int (m : Int), .int (n : Int)] ∧ Q (.int (Nat.gcd m n : Int)) H
theorem scGcd : FnScope ["one", "other", "rest"] ["one", "other"] (defScope sGcd) := ⟨rfl, rfl, rfl, by decide +kernel, rfl, by decide +kernel, by decide +kernel⟩
theorem ok_gcd {f : Addr} {fd : FuncData} (F : Fun K "greatest_divisor" "greatest_divisor" sGcd f fd) : FnOk P w K mg base (CXE P w) 1 f fd ["one", "other"] spGcd := by
  refine F.okE scGcd (fun vs H Q E h => ?_) (fun cdv A outer s H vs Q E hr h => ?_)
  · obtain ⟨a, b, rfl, _⟩ := h
    rfl
  · obtain ⟨m, n, rfl, k⟩ := h
    have nd : (["one", "other", "rest"] : List Str).Nodup := by decide +kernel
    refine ⟨_, pss_cons (ps_while PassesOwn.leaving (pt_cmpR op_ne (pv 1) pe_int (nomark _))
        (pss_cons (ps_set (i := 2) nd rfl (Or.inl rfl) (pe_op op_mod (pv 0) (pv 1))) (pss_cons (ps_set (i := 0) nd rfl (Or.inl rfl) (pv 1)) (pss_one (ps_set (i := 1) nd rfl (Or.inl rfl) (pv 2))))))
      (pss_one (ps_ret (pv 0))), ?_⟩
    refine while_by (fun σ H' => ∃ (x y : Nat) (o : Option V), σ = [some (.int (x : Int)), some (.int (y : Int)), o] ∧ H' = H ∧ Nat.gcd x y = Nat.gcd m n)
      (fun σ _ => match σ with | _ :: some (.int y) :: _ => y.toNat | _ => 0) ⟨m, n, none, rfl, rfl, rfl⟩ ?_ ?_
    · rintro σ H' ⟨x, y, o, rfl, rfl, g⟩
      refine ⟨_, rfl, rfl, _, rfl, ?_⟩
      rw [decI]
      by_cases hy : y = 0
      · rw [decide_eq_true (by omega)]
        refine iteF ⟨_, rfl, ?_⟩
        rw [← g, hy, Nat.gcd_zero_right] at k
        exact k
      · rw [decide_eq_false (by omega)]
        have e : ((x : Int) % (y : Int)) = ((x % y : Nat) : Int) := rfl
        refine iteT ⟨_, rfl, _, rfl, _, _, rfl, rfl, by omega, _, rfl, _, rfl, ⟨y, x % y, some (.int ((x % y : Nat) : Int)), rfl, rfl, ?_⟩, ?_⟩
        · rw [← g, Nat.gcd_comm x y, Nat.gcd_comm y (x % y), ← Nat.gcd_rec]
        · show ((x % y : Nat) : Int).toNat < (y : Int).toNat
          rw [Int.toNat_natCast, Int.toNat_natCast]
          exact Nat.mod_lt _ (by omega)
    · rintro σ H Q Q' hq ⟨v, e, s, k, e2, q⟩
      exact ⟨v, e, s, k, e2, hq _ _ q⟩
noncomputable def spAny (K : PySem.W.Frag) (CL : Addr) {α : Type} (g : WrTabs.Bytes → Option α) (R : Hp → V → α → Prop) : Sp := fun vs H Q E => ∃ (a : Addr) (b : WrTabs.Bytes), vs = [.ref a] ∧ SqL K H a (bs b) ∧ b.length ≤ 66000 ∧
  ∀ v H', Same H H' → Ans (g b) (fun x => R H' v x → Q v H') (E (.ref CL) none H')
noncomputable def fracAt (H : Hp) (v : V) (x : Int × Nat) : Prop := ∃ p, v = .ref p ∧ H p = some (.tup [.int x.1, .int (x.2 : Int)])
theorem abs_eq (i : Int) : (if i < 0 then -i else i) = (i.natAbs : Int) := by
  by_cases h : i < 0
  · rw [if_pos h]; omega
  · rw [if_neg h]; omega
theorem scFrac : FnScope ["row", "parts", "upper", "lower"] ["row"] (defScope sFrac) := ⟨rfl, rfl, rfl, by decide +kernel, rfl, by decide +kernel, by decide +kernel⟩
theorem ok_frac {f : Addr} {fd : FuncData} (F : Fun K "read_fraction" "read_fraction" sFrac f fd) (T : Txt mg) (L : Lnr K mg CL mL) (GC : Fn P w K mg base "cut_at" 1 ["row", "mark"] (spCut K)) (GS : Fn P w K mg base "read_size" 2 ["row"] (spSize K CL))
    (GW : Fn P w K mg base "read_whole" 3 ["row"] (spWhole K CL)) (GG : Fn P w K mg base "greatest_divisor" 1 ["one", "other"] spGcd) : FnOk P w K mg base (CXE P w) 4 f fd ["row"] (spAny K CL Tb.readFraction fracAt) := by
  refine F.okE scFrac (fun vs H Q E h => ?_) (fun cdv A outer s H vs Q E hr h => ?_)
  · obtain ⟨a, b, rfl, _⟩ := h
    rfl
  · obtain ⟨a, b, rfl, sq, le, k⟩ := h
    have nd : (["row", "parts", "upper", "lower"] : List Str).Nodup := by decide +kernel
    refine ⟨_, pss_cons (ps_set (i := 1) nd rfl (Or.inl rfl) (pcall GC (hr.mono (by decide)) (passE (E := E) fun _ _ _ z => z) (pa_cons (pv 0) (pa_cons (pgi T.slash) pa_nil))))
      (pss_cons (ps_if (pt_cmpR op_ne (plen_seq T.len (pv 1)) pe_int (nomark _)) (pss_one (ps_raise0 L.cls L.ni throws_cx rfl rfl rfl L.mg)) pss_nil)
      (pss_cons (ps_set (i := 2) nd rfl (Or.inl rfl) (pcall GW hr (passE (E := E) fun _ _ _ z => z) (pa_cons (pe_ix ix_list (pv 1) pe_int (fun _ _ => rfl)) pa_nil)))
      (pss_cons (ps_set (i := 3) nd rfl (Or.inl rfl) (pcall GS (hr.mono (by decide)) (passE (E := E) fun _ _ _ z => z) (pa_cons (pe_ix ix_list (pv 1) pe_int (fun _ _ => rfl)) pa_nil)))
      (pss_cons (ps_if (PW.pt (pw_or (pt_cmpR op_eq (pv 3) pe_int (nomark _)) (pw_or1 (pt_cmpR op_ne (pcall GG (hr.mono (by decide)) (passE (E := E) fun _ _ _ z => z) (pa_cons (pe_callB call_abs rfl T.abs (by rfl) (pa_cons (pv 2) pa_nil)) (pa_cons (pv 3) pa_nil))) pe_int (nomark _)))))
        (pss_one (ps_raise0 L.cls L.ni throws_cx rfl rfl rfl L.mg)) pss_nil)
      (pss_one (ps_ret (pe_tup (pa_cons (pv 2) (pa_cons (pv 3) pa_nil))))))))), ?_⟩
    refine ⟨_, rfl, a, b, 47, rfl, sq, le, fun l as H1 nl s1 pc na => ?_⟩
    refine ⟨_, rfl, l, _, rfl, .inl (sq_lst pc.1), rfl, _, rfl, ?_⟩
    have al := pc.2.len
    rw [decI, refs_length]
    by_cases h2 : as.length = 2
    case neg =>
      (rw [decide_eq_false (by omega)])
      refine iteT ((k .non H1 s1).2 ?_)
      unfold Tb.readFraction
      split
      · rename_i p q e
        rw [e] at al
        exact absurd al h2
      · rfl
    case pos =>
      (rw [decide_eq_true (by omega)])
      obtain ⟨p, q, e⟩ : ∃ p q, Tb.cutAt 47 b = [p, q] := by
        match h : Tb.cutAt 47 b with
        | [] => rw [h, h2] at al; exact absurd al (by simp)
        | [_] => rw [h, h2] at al; exact absurd al (by simp)
        | [p, q] => exact ⟨p, q, rfl⟩
        | _ :: _ :: _ :: _ => rw [h, h2] at al; exact absurd al (by simp)
      have lp : p.length ≤ 66000 := Nat.le_trans (cut_le (m := 47) (b := b) (by rw [e]; exact List.mem_cons_self)) le
      have lq : q.length ≤ 66000 := Nat.le_trans (cut_le (m := 47) (b := b) (by rw [e]; exact List.mem_cons_of_mem _ List.mem_cons_self)) le
      obtain ⟨pc1, pc2⟩ := pc
      rw [e] at pc2
      cases pc2 with
      | cons r1 t =>
      cases t with
      | cons r2 t =>
      cases t with
      | nil =>
      rename_i a1 a2
      have ek : Tb.readFraction b = (Tb.readWhole p).bind fun u => (Tb.readSize q).bind fun l => Tb.fracParts u l := by unfold Tb.readFraction; rw [e]
      refine iteF ⟨_, rfl, l, _, _, .ref a1, rfl, rfl, sq_lst pc1, rfl, a1, p, rfl, sq_lst r1, lp, fun H2 s2 => ⟨fun u hu => ?_, fun hu => ?_⟩⟩
      · refine ⟨_, rfl, l, _, _, .ref a2, rfl, rfl, sq_lst (s2 _ _ pc1), rfl, a2, q, rfl, sq_lst (s2 _ _ r2), lq, fun n hn => ?_, fun hn => ?_⟩
        · refine ⟨_, rfl, rfl, _, rfl, ?_⟩
          rw [decI]
          refine iteD (fun h0 => ?_) (fun h0 => ?_)
          · refine iteT ((k .non H2 (s1.trans s2)).2 ?_)
            rw [ek, hu, hn]
            show Tb.fracParts u n = none
            unfold Tb.fracParts
            rw [if_pos (.inl (by omega))]
          · refine ⟨_, rfl, u, rfl, _, rfl, u.natAbs, n, ?_, rfl, _, rfl, ?_⟩
            · rw [abs_eq]; rfl
            rw [decI]
            by_cases h1 : Nat.gcd u.natAbs n = 1
            · rw [decide_eq_true (by omega)]
              refine iteF ⟨_, rfl, _, rfl, (by show (2 : Nat) ≤ _; decide), fun p hp => (k (.ref p) _ ((s1.trans s2).upd ((s1.trans s2).free hp))).1 (u, n) ?_ ⟨p, rfl, upd_same⟩⟩
              rw [ek, hu, hn]
              show Tb.fracParts u n = _
              unfold Tb.fracParts
              rw [if_neg]
              rintro (z | z)
              · exact h0 (by omega)
              · exact z h1
            · rw [decide_eq_false (by omega)]
              refine iteT ((k .non H2 (s1.trans s2)).2 ?_)
              rw [ek, hu, hn]
              show Tb.fracParts u n = none
              unfold Tb.fracParts
              rw [if_pos (.inr h1)]
        · exact (k .non H2 (s1.trans s2)).2 (by rw [ek, hu, hn]; rfl)
      · exact (k .non H2 (s1.trans s2)).2 (by rw [ek, hu]; rfl)
end
end TbP

namespace TbP
open PySem PySem.Spec PyProof.Rows L2
section
variable {P : Program} {w : World} {K : PySem.W.Frag} {mg : Str → Option Value} {base : Heap} {CL : Addr} {mL : Str → Option Value}
noncomputable def okPlain (c : UInt8) : Option UInt8 := if 32 ≤ c ∧ c ≤ 126 ∧ c ≠ 34 then some c else none
noncomputable def okEsc (c : UInt8) : Option UInt8 := if c = 110 then some 10 else if c = 34 ∨ c = 92 then some c else none
noncomputable def spByte (CL : Addr) (g : UInt8 → Option UInt8) : Sp := fun vs H Q E => ∃ c : UInt8, vs = [.int (c.toNat : Int)] ∧ Ans (g c) (fun d => Q (.int (d.toNat : Int)) H) (E (.ref CL) none H)
theorem lt8 (a c : UInt8) (n : Int) (hn : (a.toNat : Int) = n) : ((c.toNat : Int) < n) ↔ ¬ (a ≤ c) := by
  rw [UInt8.le_iff_toNat_le]; omega
theorem gt8 (a c : UInt8) (n : Int) (hn : (a.toNat : Int) = n) : (n < (c.toNat : Int)) ↔ ¬ (c ≤ a) := by
  rw [UInt8.le_iff_toNat_le]; omega
theorem scPlain : FnScope ["byte"] ["byte"] (defScope sPlain) := ⟨rfl, rfl, rfl, by decide +kernel, rfl, by decide +kernel, by decide +kernel⟩
theorem ok_plain {f : Addr} {fd : FuncData} (F : Fun K "plain_byte" "plain_byte" sPlain f fd) (T : Txt mg) (L : Lnr K mg CL mL) : FnOk P w K mg base (CXE P w) 1 f fd ["byte"] (spByte CL okPlain) := by
  refine F.okE scPlain (fun vs H Q E h => ?_) (fun cdv A outer s H vs Q E hr h => ?_)
  · obtain ⟨c, rfl, _⟩ := h
    rfl
  · obtain ⟨c, rfl, k⟩ := h
    refine ⟨_, pss_cons (ps_if (PW.pt (pw_or (pt_cmpR op_lt (pv 0) (pgi T.leastPlain) (nomark _)) (pw_or (pt_cmpR op_gt (pv 0) (pgi T.mostPlain) (nomark _)) (pw_or1 (pt_cmpR op_eq (pv 0) (pgi T.quote) (nomark _))))))
      (pss_one (ps_raise0 L.cls L.ni throws_cx rfl rfl rfl L.mg)) pss_nil) (pss_one (ps_ret (pv 0))), ?_⟩
    refine ⟨_, rfl, _, _, rfl, rfl, _, rfl, iteD (fun h1 => ?_) (fun h1 => ?_)⟩
    · refine iteT (k.2 ?_)
      unfold okPlain
      rw [if_neg fun z => (lt8 32 c 32 rfl).mp h1 z.1]
    refine ⟨_, rfl, _, _, rfl, rfl, _, rfl, iteD (fun h2 => ?_) (fun h2 => ?_)⟩
    · refine iteT (k.2 ?_)
      unfold okPlain
      rw [if_neg fun z => (gt8 126 c 126 rfl).mp h2 z.2.1]
    refine ⟨_, rfl, rfl, _, rfl, ?_⟩
    rw [eqB 34 34 c rfl]
    refine iteD (fun h3 => ?_) (fun h3 => ?_)
    · refine k.2 ?_
      unfold okPlain
      rw [if_neg fun z => z.2.2 h3]
    · refine ⟨_, rfl, k.1 c ?_⟩
      unfold okPlain
      rw [if_pos ⟨Decidable.of_not_not fun z => h1 ((lt8 32 c 32 rfl).mpr z), Decidable.of_not_not fun z => h2 ((gt8 126 c 126 rfl).mpr z), h3⟩]
theorem scEsc : FnScope ["byte"] ["byte"] (defScope sEsc) := ⟨rfl, rfl, rfl, by decide +kernel, rfl, by decide +kernel, by decide +kernel⟩
theorem ok_esc {f : Addr} {fd : FuncData} (F : Fun K "escaped_byte" "escaped_byte" sEsc f fd) (T : Txt mg) (L : Lnr K mg CL mL) : FnOk P w K mg base (CXE P w) 1 f fd ["byte"] (spByte CL okEsc) := by
  refine F.okE scEsc (fun vs H Q E h => ?_) (fun cdv A outer s H vs Q E hr h => ?_)
  · obtain ⟨c, rfl, _⟩ := h
    rfl
  · obtain ⟨c, rfl, k⟩ := h
    refine ⟨_, pss_cons (ps_if (pt_cmpR op_eq (pv 0) (pgi T.ln) (nomark _)) (pss_one (ps_ret (pgi T.lineEnd))) pss_nil)
      (pss_cons (ps_if (PW.pt (pw_and (pt_cmpR op_ne (pv 0) (pgi T.quote) (nomark _)) (pw_and1 (pt_cmpR op_ne (pv 0) (pgi T.back) (nomark _)))))
      (pss_one (ps_raise0 L.cls L.ni throws_cx rfl rfl rfl L.mg)) pss_nil) (pss_one (ps_ret (pv 0)))), ?_⟩
    refine ⟨_, rfl, rfl, _, rfl, ?_⟩
    rw [eqB 110 110 c rfl]
    refine iteD (fun h1 => ?_) (fun h1 => ?_)
    · exact k.1 10 (by unfold okEsc; rw [if_pos h1])
    refine ⟨_, rfl, rfl, _, rfl, ?_⟩
    rw [eqB 34 34 c rfl]
    by_cases h2 : c = 34
    · rw [decide_eq_true h2]
      exact iteF ⟨_, rfl, k.1 c (by unfold okEsc; rw [if_neg h1, if_pos (.inl h2)])⟩
    · rw [decide_eq_false h2]
      refine iteT ⟨_, rfl, rfl, _, rfl, ?_⟩
      rw [eqB 92 92 c rfl]
      by_cases h3 : c = 92
      · rw [decide_eq_true h3]
        exact iteF ⟨_, rfl, k.1 c (by unfold okEsc; rw [if_neg h1, if_pos (.inr h3)])⟩
      · rw [decide_eq_false h3]
        exact iteT (k.2 (by unfold okEsc; rw [if_neg h1, if_neg fun z => z.elim h2 h3]))
theorem esc_true (t : WrTabs.Bytes) (c : UInt8) : Tb.escStep (some (t, true)) c = (okEsc c).map fun d => (t ++ [d], false) := by
  unfold Tb.escStep okEsc
  by_cases h1 : c = 110
  · simp [h1]
  · by_cases h2 : c = 34 ∨ c = 92
    · simp [h1, h2]
    · simp [h1, h2]
theorem esc_false (t : WrTabs.Bytes) (c : UInt8) : Tb.escStep (some (t, false)) c = if c = 92 then some (t, true) else (okPlain c).map fun d => (t ++ [d], false) := by
  unfold Tb.escStep okPlain
  by_cases h1 : c = 92
  · simp [h1]
  · by_cases h2 : 32 ≤ c ∧ c ≤ 126 ∧ c ≠ 34
    · simp [h1, h2]
    · simp [h1, h2]
noncomputable def spUnesc (K : PySem.W.Frag) (CL : Addr) : Sp := fun vs H Q E => ∃ (a : Addr) (b : WrTabs.Bytes), vs = [.ref a] ∧ SqL K H a (bs b) ∧ b.length ≤ 66000 ∧
  ∀ l H', Same H H' → Ans (Tb.unescape b) (fun t => H' l = some (.lst (bs t)) → Q (.ref l) H') (E (.ref CL) none H')
theorem esc_gone {b : WrTabs.Bytes} {i : Nat} (h : (b.take i).foldl Tb.escStep (some ([], false)) = none) : Tb.unescape b = none := by
  unfold Tb.unescape
  rw [← List.take_append_drop i b, List.foldl_append, h, Tb.esc_none]
theorem scUnesc : FnScope ["row", "text", "escaped", "byte"] ["row"] (defScope sUnesc) := ⟨rfl, rfl, rfl, by decide +kernel, rfl, by decide +kernel, by decide +kernel⟩
theorem ok_unesc {f : Addr} {fd : FuncData} (F : Fun K "unescape" "unescape" sUnesc f fd) (T : Txt mg) (L : Lnr K mg CL mL) (GE : Fn P w K mg base "escaped_byte" 1 ["byte"] (spByte CL okEsc)) (GP : Fn P w K mg base "plain_byte" 1 ["byte"] (spByte CL okPlain)) :
    FnOk P w K mg base (CXE P w) 2 f fd ["row"] (spUnesc K CL) := by
  refine F.okE scUnesc (fun vs H Q E h => ?_) (fun cdv A outer s H vs Q E hr h => ?_)
  · obtain ⟨a, b, rfl, _⟩ := h
    rfl
  · obtain ⟨a, b, rfl, sq, le, k⟩ := h
    have nd : (["row", "text", "escaped", "byte"] : List Str).Nodup := by decide +kernel
    refine ⟨_, pss_cons (ps_set (i := 1) nd rfl (Or.inl rfl) (pe_lst pa_nil)) (pss_cons (ps_set (i := 2) nd rfl (Or.inl rfl) pe_bl)
      (pss_cons (ps_for PassesOwn.leaving rfl (pi_list (pv 0)) (pg_name (i := 3) nd rfl (Or.inl rfl))
        (pss_one (ps_if (pt_val (pv 2))
          (pss_cons (ps_expr (pe_bm PySem.F.plainAttrs_list PySem.F.slot_list_append PySem.F.type_list_append mt_append (pv 1) (pa_cons (pcall GE hr (passE (E := E) fun _ _ _ z => z) (pa_cons (pv 3) pa_nil)) pa_nil)))
            (pss_one (ps_set (i := 2) nd rfl (Or.inl rfl) pe_bl)))
          (pss_one (ps_if (pt_cmpR op_eq (pv 3) (pgi T.back) (nomark _)) (pss_one (ps_set (i := 2) nd rfl (Or.inl rfl) pe_bl))
            (pss_one (ps_expr (pe_bm PySem.F.plainAttrs_list PySem.F.slot_list_append PySem.F.type_list_append mt_append (pv 1) (pa_cons (pcall GP hr (passE (E := E) fun _ _ _ z => z) (pa_cons (pv 3) pa_nil)) pa_nil)))))))))
      (pss_cons (ps_if (pt_val (pv 2)) (pss_one (ps_raise0 L.cls L.ni throws_cx rfl rfl rfl L.mg)) pss_nil)
      (pss_one (ps_ret (pv 1)))))), ?_⟩
    refine ⟨Nat.zero_le _, fun l hl => ?_⟩
    refine ⟨_, rfl, a, rfl, ⟨bs b, (Same.new hl).seq sq⟩, for_list (xs := bs b) (fun i σ H' => ∃ t e o, σ = [some (.ref a), some (.ref l), some (.bl e), o] ∧ Same H H' ∧ H' l = some (.lst (bs t)) ∧ (b.take i).foldl Tb.escStep (some ([], false)) = some (t, e) ∧ t.length ≤ i)
      ⟨[], false, none, rfl, Same.new hl, upd_same, rfl, Nat.le_refl _⟩ ?_ ?_ ?_⟩
    · rintro i σ H' _ ⟨t, e, o, rfl, sm, _⟩
      exact sm.seq sq
    · rintro i x σ H' hx ⟨t, e, o, rfl, sm, ht, fo, tl⟩
      obtain ⟨c, hc, rfl⟩ := bs_get hx
      have il := get_le hc
      have st : (b.take (i + 1)).foldl Tb.escStep (some ([], false)) = Tb.escStep (some (t, e)) c := by
        rw [take_snoc hc, List.foldl_append, fo]; rfl
      have sz : (bs t).length < sizeLine := by rw [bs_length]; unfold sizeLine; omega
      refine ⟨_, rfl, e, rfl, ?_⟩
      cases e with
      | true =>
        refine iteT ⟨_, rfl, Or.inl ⟨rfl, _, sq_lst ht⟩, _, rfl, c, rfl, fun d hd => ?_, fun hd => ?_⟩
        · refine ⟨l, _, _, rfl, rfl, ht, sz, t ++ [d], false, _, rfl, sm.upd hl, by rw [upd_same, bs_snoc], ?_, ?_⟩
          · rw [st, esc_true, hd]; rfl
          · (rw [List.length_append, List.length_singleton]; omega)
        · exact (k l H' sm).2 (esc_gone (i := i + 1) (by rw [st, esc_true, hd]; rfl))
      | false =>
        refine iteF ⟨_, rfl, rfl, _, rfl, ?_⟩
        rw [eqB 92 92 c rfl]
        refine iteD (fun h1 => ?_) (fun h1 => ?_)
        · refine ⟨t, true, _, rfl, sm, ht, ?_, by omega⟩
          rw [st, esc_false, if_pos h1]
        · refine ⟨_, rfl, Or.inl ⟨rfl, _, sq_lst ht⟩, _, rfl, c, rfl, fun d hd => ?_, fun hd => ?_⟩
          · refine ⟨l, _, _, rfl, rfl, ht, sz, t ++ [d], false, _, rfl, sm.upd hl, by rw [upd_same, bs_snoc], ?_, ?_⟩
            · rw [st, esc_false, if_neg h1, hd]; rfl
            · (rw [List.length_append, List.length_singleton]; omega)
          · exact (k l H' sm).2 (esc_gone (i := i + 1) (by rw [st, esc_false, if_neg h1, hd]; rfl))
    · rintro σ H' ⟨t, e, o, rfl, sm, ht, fo, tl⟩
      rw [bs_length, List.take_length] at fo
      refine ⟨_, rfl, e, rfl, ?_⟩
      cases e with
      | true => exact iteT ((k l H' sm).2 (by unfold Tb.unescape; rw [fo]))
      | false => exact iteF ⟨_, rfl, (k l H' sm).1 t (by unfold Tb.unescape; rw [fo]) ht⟩
theorem unesc_le : ∀ (b : WrTabs.Bytes) (t0 : WrTabs.Bytes) (e : Bool) (t : WrTabs.Bytes) (e' : Bool), b.foldl Tb.escStep (some (t0, e)) = some (t, e') → t.length ≤ t0.length + b.length
  | [], t0, e, t, e', h => by cases h; exact Nat.le_refl _
  | c :: r, t0, e, t, e', h => by
    rw [List.foldl_cons] at h
    cases hs : Tb.escStep (some (t0, e)) c with
    | none => rw [hs, Tb.esc_none] at h; cases h
    | some p =>
      obtain ⟨t1, e1⟩ := p
      rw [hs] at h
      have := unesc_le r t1 e1 t e' h
      have l1 : t1.length ≤ t0.length + 1 := by
        cases e with
        | true =>
          rw [esc_true] at hs
          cases ho : okEsc c with
          | none => rw [ho] at hs; cases hs
          | some d => rw [ho] at hs; cases hs; rw [List.length_append]; exact Nat.le_refl _
        | false =>
          rw [esc_false] at hs
          by_cases hc : c = 92
          · rw [if_pos hc] at hs; cases hs; omega
          · rw [if_neg hc] at hs
            cases ho : okPlain c with
            | none => rw [ho] at hs; cases hs
            | some d => rw [ho] at hs; cases hs; rw [List.length_append]; exact Nat.le_refl _
      rw [List.length_cons]
      omega
noncomputable def textAt (H : Hp) (v : V) (x : WrTabs.Bytes) : Prop := ∃ p, v = .ref p ∧ H p = some (.tup (bs x))
noncomputable def truthAt (_ : Hp) (v : V) (x : Bool) : Prop := v = .bl x
theorem scText : FnScope ["row", "text"] ["row"] (defScope sText) := ⟨rfl, rfl, rfl, by decide +kernel, rfl, by decide +kernel, by decide +kernel⟩
theorem ok_text {f : Addr} {fd : FuncData} (F : Fun K "read_text" "read_text" sText f fd) (T : Txt mg) (L : Lnr K mg CL mL) (GU : Fn P w K mg base "unescape" 2 ["row"] (spUnesc K CL)) :
    FnOk P w K mg base (CXE P w) 3 f fd ["row"] (spAny K CL Tb.readText textAt) := by
  refine F.okE scText (fun vs H Q E h => ?_) (fun cdv A outer s H vs Q E hr h => ?_)
  · obtain ⟨a, b, rfl, _⟩ := h
    rfl
  · obtain ⟨a, b, rfl, sq, le, k⟩ := h
    have nd : (["row", "text"] : List Str).Nodup := by decide +kernel
    refine ⟨_, pss_cons (ps_if (PW.pt (pw_or (pt_cmpR op_lt (plen_seq T.len (pv 0)) pe_int (nomark _)) (pw_or (pt_cmpR op_ne (pe_ix ix_list (pv 0) pe_int (fun _ _ => rfl)) (pgi T.quote) (nomark _))
        (pw_or1 (pt_cmpR op_ne (pe_ix ix_list (pv 0) (pe_un un_neg pe_int) (fun _ _ => rfl)) (pgi T.quote) (nomark _))))))
        (pss_one (ps_raise0 L.cls L.ni throws_cx rfl rfl rfl L.mg)) pss_nil)
      (pss_cons (ps_set (i := 1) nd rfl (Or.inl rfl) (pcall GU hr (passE (E := E) fun _ _ _ z => z) (pa_cons (pe_slice sl_list (pv 0) (po_some pe_int) (po_some (pe_un un_neg pe_int))) pa_nil)))
      (pss_cons (ps_if (pt_cmpR op_gt (plen_seq T.len (pv 1)) (pgi T.longText) (nomark _)) (pss_one (ps_raise0 L.cls L.ni throws_cx rfl rfl rfl L.mg)) pss_nil)
      (pss_one (ps_ret (pe_callTy call_tuple_of rfl T.tuple (by rfl) (pa_cons (pv 1) pa_nil)))))), ?_⟩
    refine ⟨_, rfl, a, _, rfl, .inl sq, _, _, rfl, rfl, _, rfl, ?_⟩
    rw [bs_length]
    refine iteD (fun h1 => ?_) (fun h1 => ?_)
    · refine iteT ((k .non H (Same.refl H)).2 ?_)
      unfold Tb.readText
      rw [if_pos (.inl (by omega))]
    obtain ⟨c0, m, z, rfl⟩ : ∃ c0 m z, b = c0 :: (m ++ [z]) := by
      cases b with
      | nil => exact absurd (by decide) h1
      | cons c0 r =>
        cases hr : r.reverse with
        | nil => rw [List.reverse_eq_nil_iff.mp hr] at h1; exact absurd (by show (1 : Int) < 2; decide) h1
        | cons z y => exact ⟨c0, y.reverse, z, by rw [← List.reverse_reverse r, hr, List.reverse_cons]⟩
    have e0 : (c0 :: (m ++ [z])).head? = some c0 := rfl
    have e1 : (c0 :: (m ++ [z])).getLast? = some z := by
      rw [show c0 :: (m ++ [z]) = (c0 :: m) ++ [z] from rfl, List.getLast?_concat]
    refine ⟨_, rfl, a, _, 0, .int (c0.toNat : Int), rfl, rfl, sq, atI_nat (j := 0) rfl, rfl, _, rfl, ?_⟩
    rw [eqB 34 34 c0 rfl]
    by_cases h2 : c0 = 34
    case neg =>
      rw [decide_eq_false h2]
      refine iteT (iteT ((k .non H (Same.refl H)).2 ?_))
      unfold Tb.readText
      rw [if_pos (.inr (.inl (by rw [e0]; exact fun q => h2 (Option.some.inj q))))]
    rw [decide_eq_true h2]
    refine iteF ⟨_, rfl, _, rfl, a, _, _, .int (z.toNat : Int), rfl, rfl, sq, ?_, rfl, _, rfl, ?_⟩
    · rw [show c0 :: (m ++ [z]) = (c0 :: m) ++ [z] from rfl, bs_snoc]
      exact atI_last _ _
    rw [eqB 34 34 z rfl]
    by_cases h3 : z = 34
    case neg =>
      rw [decide_eq_false h3]
      refine iteT ((k .non H (Same.refl H)).2 ?_)
      unfold Tb.readText
      rw [if_pos (.inr (.inr (by rw [e1]; exact fun q => h3 (Option.some.inj q))))]
    rw [decide_eq_true h3]
    have ek : Tb.readText (c0 :: (m ++ [z])) = (Tb.unescape ((c0 :: (m ++ [z])).drop 1).dropLast).bind fun t => if 1000 < t.length then none else some t := by
      unfold Tb.readText
      rw [if_neg]
      rintro (q | q | q)
      · omega
      · exact q (by rw [e0, h2])
      · exact q (by rw [e1, h3])
    refine iteF ⟨_, rfl, _, rfl, _, rfl, _, rfl, a, _, rfl, sq, fun p hp => ?_⟩
    rw [cut_mid _ (by omega)]
    refine ⟨p, _, rfl, sq_lst upd_same, ?_, fun l H1 s1 => ⟨fun t ht hl => ?_, fun ht => ?_⟩⟩
    · rw [List.length_dropLast, List.length_drop]; omega
    · have sm : Same H H1 := (Same.new hp).trans s1
      refine ⟨_, rfl, l, _, rfl, .inl (sq_lst hl), _, _, rfl, rfl, _, rfl, ?_⟩
      rw [bs_length]
      refine iteD (fun h4 => ?_) (fun h4 => ?_)
      · refine (k .non H1 sm).2 ?_
        rw [ek, ht]
        show (if 1000 < t.length then none else some t) = none
        rw [if_pos (by omega)]
      · refine ⟨_, rfl, l, _, rfl, .inl ⟨sq_lst hl, fun q hq => (k (.ref q) _ (sm.upd (sm.free hq))).1 t ?_ ⟨q, rfl, upd_same⟩⟩⟩
        rw [ek, ht]
        show (if 1000 < t.length then none else some t) = some t
        rw [if_neg (by omega)]
    · exact (k .non H1 ((Same.new hp).trans s1)).2 (by rw [ek, ht]; rfl)
theorem strOf_inj {x y : WrTabs.Bytes} (h : strOf x = strOf y) : x = y := by
  unfold strOf at h
  injection h with h
  have h : x.map (fun c => c.toNat) = y.map fun c => c.toNat := by injection h
  exact List.map_inj_right (fun a b q => UInt8.toNat_inj.mp q) |>.mp h
theorem decS (x : WrTabs.Bytes) (y : Str) (z : WrTabs.Bytes) (e : y = strOf z) : decide (V.str (strOf x) = V.str y) = decide (x = z) := by
  subst e
  by_cases h : x = z
  · rw [decide_eq_true h, h]; exact decide_eq_true rfl
  · rw [decide_eq_false h]; exact decide_eq_false fun q => h (strOf_inj (by injection q))
theorem scTruth : FnScope ["row", "word"] ["row"] (defScope sTruth) := ⟨rfl, rfl, rfl, by decide +kernel, rfl, by decide +kernel, by decide +kernel⟩
theorem ok_truth {f : Addr} {fd : FuncData} (F : Fun K "read_truth" "read_truth" sTruth f fd) (L : Lnr K mg CL mL) (GW : Fn P w K mg base "word_of" 3 ["row"] (spWord K CL)) :
    FnOk P w K mg base (CXE P w) 4 f fd ["row"] (spAny K CL Tb.readTruth truthAt) := by
  refine F.okE scTruth (fun vs H Q E h => ?_) (fun cdv A outer s H vs Q E hr h => ?_)
  · obtain ⟨a, b, rfl, _⟩ := h
    rfl
  · obtain ⟨a, b, rfl, sq, le, k⟩ := h
    have nd : (["row", "word"] : List Str).Nodup := by decide +kernel
    refine ⟨_, pss_cons (ps_set (i := 1) nd rfl (Or.inl rfl) (pcall GW hr (passE (E := E) fun _ _ _ z => z) (pa_cons (pv 0) pa_nil)))
      (pss_cons (ps_if (PW.pt (pw_and (pt_cmpR op_ne (pv 1) pe_str (nomark _)) (pw_and1 (pt_cmpR op_ne (pv 1) pe_str (nomark _))))) (pss_one (ps_raise0 L.cls L.ni throws_cx rfl rfl rfl L.mg)) pss_nil)
      (pss_one (ps_ret (pe_cmpR op_eq (pv 1) pe_str (nomark _))))), ?_⟩
    refine ⟨_, rfl, a, b, rfl, sq, le, fun H1 s1 => ⟨fun x hx => ?_, fun hx => ?_⟩⟩
    · have ek : Tb.readTruth b = if x = WrTabs.str "true" then some true else if x = WrTabs.str "false" then some false else none := by
        unfold Tb.readTruth; rw [hx]; rfl
      refine ⟨_, rfl, rfl, _, rfl, ?_⟩
      rw [decS x "true" (WrTabs.str "true") (by decide +kernel)]
      by_cases h1 : x = WrTabs.str "true"
      · rw [decide_eq_true h1]
        exact iteF (iteF ⟨_, rfl, rfl, (k _ H1 s1).1 true (by rw [ek, if_pos h1]) (congrArg V.bl ((decS x "true" (WrTabs.str "true") (by decide +kernel)).trans (decide_eq_true h1)))⟩)
      · rw [decide_eq_false h1]
        refine iteT ⟨_, rfl, rfl, _, rfl, ?_⟩
        rw [decS x "false" (WrTabs.str "false") (by decide +kernel)]
        by_cases h2 : x = WrTabs.str "false"
        · rw [decide_eq_true h2]
          exact iteF ⟨_, rfl, rfl, (k _ H1 s1).1 false (by rw [ek, if_neg h1, if_pos h2]) (congrArg V.bl ((decS x "true" (WrTabs.str "true") (by decide +kernel)).trans (decide_eq_false h1)))⟩
        · rw [decide_eq_false h2]
          exact iteT ((k .non H1 s1).2 (by rw [ek, if_neg h1, if_neg h2]))
    · exact (k .non H1 s1).2 (by unfold Tb.readTruth; rw [hx]; rfl)
noncomputable def sortStr : WrTabs.Sort_ → Str
  | .whole => "whole"
  | .fraction => "fraction"
  | .text => "text"
  | .truth => "truth"
noncomputable def CellAt (H : Hp) (v : V) : Tb.MCell → Prop
  | .none => v = .non
  | .whole z => v = .int z
  | .frac u l => fracAt H v (u, l)
  | .text b => textAt H v b
  | .truth b => truthAt H v b
noncomputable def spCell (K : PySem.W.Frag) (CL : Addr) : Sp := fun vs H Q E => ∃ (a : Addr) (b : WrTabs.Bytes) (so : WrTabs.Sort_), vs = [.ref a, .str (sortStr so)] ∧ SqL K H a (bs b) ∧ b.length ≤ 66000 ∧
  ∀ v H', Same H H' → Ans (Tb.readCell b so) (fun m => CellAt H' v m → Q v H') (E (.ref CL) none H')
theorem scCell : FnScope ["row", "sort"] ["row", "sort"] (defScope sCell) := ⟨rfl, rfl, rfl, by decide +kernel, rfl, by decide +kernel, by decide +kernel⟩
theorem Ans.map {α β : Type} {r : Option α} {g : α → β} {R : β → Prop} {G : Prop} {b : Prop} (h : Ans (r.map g) (fun y => R y → G) b) : Ans r (fun x => R (g x) → G) b := by
  cases r with
  | none => exact ⟨fun _ z => (nomatch z), fun _ => h.2 rfl⟩
  | some x => exact ⟨fun y z q => by cases z; exact h.1 _ rfl q, fun z => (nomatch z)⟩
theorem ok_cell {f : Addr} {fd : FuncData} (F : Fun K "read_cell" "read_cell" sCell f fd) (T : Txt mg) (G1 : Fn P w K mg base "read_whole" 3 ["row"] (spWhole K CL)) (G2 : Fn P w K mg base "read_fraction" 4 ["row"] (spAny K CL Tb.readFraction fracAt))
    (G3 : Fn P w K mg base "read_text" 3 ["row"] (spAny K CL Tb.readText textAt)) (G4 : Fn P w K mg base "read_truth" 4 ["row"] (spAny K CL Tb.readTruth truthAt)) :
    FnOk P w K mg base (CXE P w) 5 f fd ["row", "sort"] (spCell K CL) := by
  refine F.okE scCell (fun vs H Q E h => ?_) (fun cdv A outer s H vs Q E hr h => ?_)
  · obtain ⟨a, b, so, rfl, _⟩ := h
    rfl
  · obtain ⟨a, b, so, rfl, sq, le, k⟩ := h
    refine ⟨_, pss_cons (ps_if (pt_cmpR op_eq (plen_seq T.len (pv 0)) pe_int (nomark _)) (pss_one (ps_ret pe_non)) pss_nil)
      (pss_cons (ps_if (pt_cmpR op_eq (pv 1) pe_str (nomark _)) (pss_one (ps_ret (pcall G1 (hr.mono (by decide)) (passE (E := E) fun _ _ _ z => z) (pa_cons (pv 0) pa_nil)))) pss_nil)
      (pss_cons (ps_if (pt_cmpR op_eq (pv 1) pe_str (nomark _)) (pss_one (ps_ret (pcall G2 hr (passE (E := E) fun _ _ _ z => z) (pa_cons (pv 0) pa_nil)))) pss_nil)
      (pss_cons (ps_if (pt_cmpR op_eq (pv 1) pe_str (nomark _)) (pss_one (ps_ret (pcall G3 (hr.mono (by decide)) (passE (E := E) fun _ _ _ z => z) (pa_cons (pv 0) pa_nil)))) pss_nil)
      (pss_one (ps_ret (pcall G4 hr (passE (E := E) fun _ _ _ z => z) (pa_cons (pv 0) pa_nil))))))), ?_⟩
    refine ⟨_, rfl, a, _, rfl, .inl sq, rfl, _, rfl, ?_⟩
    rw [decI, bs_length]
    by_cases h0 : b = []
    · rw [decide_eq_true (by rw [h0]; rfl)]
      refine iteT ((k .non H (Same.refl H)).1 .none ?_ rfl)
      unfold Tb.readCell
      rw [if_pos h0]
    rw [decide_eq_false (fun z => h0 (List.length_eq_zero_iff.mp (by omega)))]
    unfold Tb.readCell at k
    simp only [if_neg h0] at k
    have t1 : decide (V.str (sortStr so) = V.str "whole") = decide (so = .whole) := by cases so <;> decide +kernel
    have t2 : decide (V.str (sortStr so) = V.str "fraction") = decide (so = .fraction) := by cases so <;> decide +kernel
    have t3 : decide (V.str (sortStr so) = V.str "text") = decide (so = .text) := by cases so <;> decide +kernel
    refine iteF ⟨_, rfl, rfl, _, rfl, ?_⟩
    rw [t1]
    refine iteD (fun h1 => ?_) (fun h1 => ?_)
    · subst h1
      exact ⟨_, rfl, a, b, rfl, sq, le, fun H' s' => ⟨fun n hn => ((k (.int n) H' s').map).1 n hn rfl, fun hn => ((k .non H' s').map).2 hn⟩⟩
    refine ⟨_, rfl, rfl, _, rfl, ?_⟩
    rw [t2]
    refine iteD (fun h2 => ?_) (fun h2 => ?_)
    · subst h2
      exact ⟨_, rfl, a, b, rfl, sq, le, fun v H' s' => (k v H' s').map⟩
    refine ⟨_, rfl, rfl, _, rfl, ?_⟩
    rw [t3]
    refine iteD (fun h3 => ?_) (fun h3 => ?_)
    · subst h3
      exact ⟨_, rfl, a, b, rfl, sq, le, fun v H' s' => (k v H' s').map⟩
    · have h4 : so = .truth := by cases so <;> simp_all
      subst h4
      exact ⟨_, rfl, a, b, rfl, sq, le, fun v H' s' => (k v H' s').map⟩
end
end TbP

namespace TbP
open PySem PySem.Spec PyProof.Rows L2
structure Wds (K : PySem.W.Frag) (mg : Str → Option Value) : Prop where
  taken : ∃ t, mg "TAKEN_WORDS" = some (.ref t) ∧ ∀ H, SqT K H t (WrTabs.KEYS.map fun k => V.str (strOf k))
  sorts : ∃ t, mg "SORTS" = some (.ref t) ∧ ∀ H, SqT K H t [.str "whole", .str "fraction", .str "text", .str "truth"]
theorem inV_keys (x : WrTabs.Bytes) : inV (.str (strOf x)) (WrTabs.KEYS.map fun k => V.str (strOf k)) = WrTabs.KEYS.contains x := by
  unfold inV
  rw [List.any_map]
  rw [Bool.eq_iff_iff, List.any_eq_true, List.contains_iff_mem]
  constructor
  · rintro ⟨k, hk, e⟩
    have e : (strOf k == strOf x) = true := e
    rw [strOf_inj (eq_of_beq e)] at hk
    exact hk
  · intro h
    exact ⟨x, h, beq_self_eq_true (strOf x)⟩
theorem str_w : (Str.ofString "whole") = strOf (WrTabs.str "whole") := by decide +kernel
theorem str_f : (Str.ofString "fraction") = strOf (WrTabs.str "fraction") := by decide +kernel
theorem str_t : (Str.ofString "text") = strOf (WrTabs.str "text") := by decide +kernel
theorem str_b : (Str.ofString "truth") = strOf (WrTabs.str "truth") := by decide +kernel
theorem beqS (x z : WrTabs.Bytes) : (strOf z == strOf x) = decide (x = z) := by
  by_cases h : x = z
  · rw [h, decide_eq_true rfl]; exact beq_self_eq_true _
  · rw [decide_eq_false h]; exact beq_false_of_ne fun q => h (strOf_inj q).symm
theorem inV_sorts (x : WrTabs.Bytes) : inV (.str (strOf x)) [.str "whole", .str "fraction", .str "text", .str "truth"] = (WrTabs.sortOfWord x).isSome := by
  unfold inV
  show ((Str.ofString "whole" == strOf x) || ((Str.ofString "fraction" == strOf x) || ((Str.ofString "text" == strOf x) || ((Str.ofString "truth" == strOf x) || false)))) = _
  rw [str_w, str_f, str_t, str_b, beqS, beqS, beqS, beqS]
  unfold WrTabs.sortOfWord
  by_cases h1 : x = WrTabs.str "whole"
  · simp [h1]
  by_cases h2 : x = WrTabs.str "fraction"
  · rw [if_neg h1, if_pos h2, decide_eq_true h2]; simp
  by_cases h3 : x = WrTabs.str "text"
  · rw [if_neg h1, if_neg h2, if_pos h3, decide_eq_true h3]; simp
  by_cases h4 : x = WrTabs.str "truth"
  · rw [if_neg h1, if_neg h2, if_neg h3, if_pos h4, decide_eq_true h4]; simp
  · simp [h1, h2, h3, h4]
theorem sort_str {x : WrTabs.Bytes} {so : WrTabs.Sort_} (h : WrTabs.sortOfWord x = some so) : strOf x = sortStr so := by
  unfold WrTabs.sortOfWord at h
  by_cases h1 : x = WrTabs.str "whole"
  · rw [if_pos h1] at h; cases h; rw [h1]; exact str_w.symm
  rw [if_neg h1] at h
  by_cases h2 : x = WrTabs.str "fraction"
  · rw [if_pos h2] at h; cases h; rw [h2]; exact str_f.symm
  rw [if_neg h2] at h
  by_cases h3 : x = WrTabs.str "text"
  · rw [if_pos h3] at h; cases h; rw [h3]; exact str_t.symm
  rw [if_neg h3] at h
  by_cases h4 : x = WrTabs.str "truth"
  · rw [if_pos h4] at h; cases h; rw [h4]; exact str_b.symm
  rw [if_neg h4] at h
  cases h
section
variable {P : Program} {w : World} {K : PySem.W.Frag} {mg : Str → Option Value} {base : Heap} {CL : Addr} {mL : Str → Option Value}
noncomputable def spName (K : PySem.W.Frag) (CL : Addr) : Sp := fun vs H Q E => ∃ (a : Addr) (b : WrTabs.Bytes), vs = [.ref a] ∧ SqL K H a (bs b) ∧ b.length ≤ 66000 ∧
  ∀ H', Same H H' → Ans (Tb.readName b) (fun x => Q (.str (strOf x)) H') (E (.ref CL) none H')
theorem scName : FnScope ["row", "name"] ["row"] (defScope sName) := ⟨rfl, rfl, rfl, by decide +kernel, rfl, by decide +kernel, by decide +kernel⟩
theorem ok_name {f : Addr} {fd : FuncData} (F : Fun K "read_name" "read_name" sName f fd) (T : Txt mg) (Wd : Wds K mg) (L : Lnr K mg CL mL) (GL : Fn P w K mg base "is_letter" 1 ["byte"] spLet) (GW : Fn P w K mg base "word_of" 3 ["row"] (spWord K CL)) :
    FnOk P w K mg base (CXE P w) 4 f fd ["row"] (spName K CL) := by
  refine F.okE scName (fun vs H Q E h => ?_) (fun cdv A outer s H vs Q E hr h => ?_)
  · obtain ⟨a, b, rfl, _⟩ := h
    rfl
  · obtain ⟨a, b, rfl, sq, le, k⟩ := h
    have nd : (["row", "name"] : List Str).Nodup := by decide +kernel
    obtain ⟨t, tm, ts⟩ := Wd.taken
    refine ⟨_, pss_cons (ps_if (PW.pt (pw_or (pt_cmpR op_eq (plen_seq T.len (pv 0)) pe_int (nomark _)) (pw_or (pt_cmpR op_gt (plen_seq T.len (pv 0)) (pgi T.longName) (nomark _))
        (pw_or1 (pt_not (pt_val (pcall GL (hr.mono (by decide)) (passE (E := E) fun _ _ _ z => z) (pa_cons (pe_ix ix_list (pv 0) pe_int (fun _ _ => rfl)) pa_nil))))))))
        (pss_one (ps_raise0 L.cls L.ni throws_cx rfl rfl rfl L.mg)) pss_nil)
      (pss_cons (ps_set (i := 1) nd rfl (Or.inl rfl) (pcall GW hr (passE (E := E) fun _ _ _ z => z) (pa_cons (pv 0) pa_nil)))
      (pss_cons (ps_if (pt_cmpR op_in_seq (pv 1) (pgr tm) rfl) (pss_one (ps_raise0 L.cls L.ni throws_cx rfl rfl rfl L.mg)) pss_nil)
      (pss_one (ps_ret (pv 1))))), ?_⟩
    refine ⟨_, rfl, a, _, rfl, .inl sq, rfl, _, rfl, ?_⟩
    rw [decI, bs_length]
    by_cases h0 : b = []
    · rw [decide_eq_true (by rw [h0]; rfl)]
      refine iteT (iteT ((k H (Same.refl H)).2 ?_))
      unfold Tb.readName
      rw [if_pos (.inl h0)]
    rw [decide_eq_false (fun z => h0 (List.length_eq_zero_iff.mp (by omega)))]
    refine iteF ⟨_, rfl, a, _, rfl, .inl sq, _, _, rfl, rfl, _, rfl, ?_⟩
    rw [bs_length]
    refine iteD (fun h1 => ?_) (fun h1 => ?_)
    · refine iteT ((k H (Same.refl H)).2 ?_)
      unfold Tb.readName
      rw [if_pos (.inr (.inl (by omega)))]
    obtain ⟨c, r, rfl⟩ : ∃ c r, b = c :: r := by
      cases b with
      | nil => exact absurd rfl h0
      | cons c r => exact ⟨c, r, rfl⟩
    refine ⟨_, rfl, a, _, 0, .int (c.toNat : Int), rfl, rfl, sq, atI_nat (j := 0) rfl, c, rfl, _, rfl, ?_⟩
    cases hs : WrTabs.isSmall c with
    | false =>
      refine iteT ((k H (Same.refl H)).2 ?_)
      unfold Tb.readName
      rw [if_pos (.inr (.inr hs))]
    | true =>
      have ek : Tb.readName (c :: r) = (Tb.wordOf (c :: r)).bind fun w => if WrTabs.KEYS.contains w = true then none else some w := by
        unfold Tb.readName
        rw [if_neg]
        rintro (q | q | q)
        · exact h0 q
        · exact h1 (by omega)
        · have q : WrTabs.isSmall c = false := q
          rw [hs] at q; cases q
      refine iteF ⟨_, rfl, a, _, rfl, sq, le, fun H1 s1 => ⟨fun x hx => ?_, fun hx => ?_⟩⟩
      · refine ⟨_, rfl, t, _, rfl, .inr (ts H1), rfl, ?_, _, rfl, ?_⟩
        · rw [List.all_map, List.all_eq_true]; intro _ _; rfl
        rw [inV_keys]
        cases hk : WrTabs.KEYS.contains x with
        | true =>
          refine iteT ((k H1 s1).2 ?_)
          rw [ek, hx]
          show (if WrTabs.KEYS.contains x = true then none else some x) = none
          rw [if_pos hk]
        | false =>
          refine iteF ⟨_, rfl, (k H1 s1).1 x ?_⟩
          rw [ek, hx]
          show (if WrTabs.KEYS.contains x = true then none else some x) = some x
          rw [hk]; rfl
      · exact (k H1 s1).2 (by rw [ek, hx]; rfl)
noncomputable def spSort (K : PySem.W.Frag) (CL : Addr) : Sp := fun vs H Q E => ∃ (a : Addr) (b : WrTabs.Bytes), vs = [.ref a] ∧ SqL K H a (bs b) ∧ b.length ≤ 66000 ∧
  ∀ H', Same H H' → Ans (Tb.readSort b) (fun x => Q (.str (sortStr x)) H') (E (.ref CL) none H')
theorem scSort : FnScope ["row", "sort"] ["row"] (defScope sSort) := ⟨rfl, rfl, rfl, by decide +kernel, rfl, by decide +kernel, by decide +kernel⟩
theorem ok_sort {f : Addr} {fd : FuncData} (F : Fun K "read_sort" "read_sort" sSort f fd) (Wd : Wds K mg) (L : Lnr K mg CL mL) (GW : Fn P w K mg base "word_of" 3 ["row"] (spWord K CL)) :
    FnOk P w K mg base (CXE P w) 4 f fd ["row"] (spSort K CL) := by
  refine F.okE scSort (fun vs H Q E h => ?_) (fun cdv A outer s H vs Q E hr h => ?_)
  · obtain ⟨a, b, rfl, _⟩ := h
    rfl
  · obtain ⟨a, b, rfl, sq, le, k⟩ := h
    have nd : (["row", "sort"] : List Str).Nodup := by decide +kernel
    obtain ⟨t, tm, ts⟩ := Wd.sorts
    refine ⟨_, pss_cons (ps_set (i := 1) nd rfl (Or.inl rfl) (pcall GW hr (passE (E := E) fun _ _ _ z => z) (pa_cons (pv 0) pa_nil)))
      (pss_cons (ps_if (pt_cmpR op_notIn_seq (pv 1) (pgr tm) rfl) (pss_one (ps_raise0 L.cls L.ni throws_cx rfl rfl rfl L.mg)) pss_nil)
      (pss_one (ps_ret (pv 1)))), ?_⟩
    refine ⟨_, rfl, a, _, rfl, sq, le, fun H1 s1 => ⟨fun x hx => ?_, fun hx => ?_⟩⟩
    · refine ⟨_, rfl, t, _, rfl, .inr (ts H1), rfl, rfl, _, rfl, ?_⟩
      rw [inV_sorts]
      have ek : Tb.readSort b = WrTabs.sortOfWord x := by unfold Tb.readSort; rw [hx]; rfl
      cases ho : WrTabs.sortOfWord x with
      | none => exact iteT ((k H1 s1).2 (by rw [ek, ho]))
      | some so =>
        refine iteF ⟨_, rfl, ?_⟩
        rw [sort_str ho]
        exact (k H1 s1).1 so (by rw [ek, ho])
    · exact (k H1 s1).2 (by unfold Tb.readSort; rw [hx]; rfl)
noncomputable def ColAt (H : Hp) (p : Addr) (c : WrTabs.Col) : Prop := H p = some (.tup [.str (strOf c.1), .str (sortStr c.2)])
noncomputable def spCol (K : PySem.W.Frag) (CL : Addr) : Sp := fun vs H Q E => ∃ (a : Addr) (b : WrTabs.Bytes), vs = [.ref a] ∧ SqL K H a (bs b) ∧ b.length ≤ 66000 ∧
  ∀ p H', Same H H' → Ans (Tb.readColumn b) (fun c => ColAt H' p c → Q (.ref p) H') (E (.ref CL) none H')
theorem scCol : FnScope ["row", "parts"] ["row"] (defScope sCol) := ⟨rfl, rfl, rfl, by decide +kernel, rfl, by decide +kernel, by decide +kernel⟩
theorem ok_col {f : Addr} {fd : FuncData} (F : Fun K "read_column" "read_column" sCol f fd) (T : Txt mg) (L : Lnr K mg CL mL) (GC : Fn P w K mg base "cut_at" 1 ["row", "mark"] (spCut K)) (GN : Fn P w K mg base "read_name" 4 ["row"] (spName K CL)) (GS : Fn P w K mg base "read_sort" 4 ["row"] (spSort K CL)) :
    FnOk P w K mg base (CXE P w) 5 f fd ["row"] (spCol K CL) := by
  refine F.okE scCol (fun vs H Q E h => ?_) (fun cdv A outer s H vs Q E hr h => ?_)
  · obtain ⟨a, b, rfl, _⟩ := h
    rfl
  · obtain ⟨a, b, rfl, sq, le, k⟩ := h
    have nd : (["row", "parts"] : List Str).Nodup := by decide +kernel
    refine ⟨_, pss_cons (ps_set (i := 1) nd rfl (Or.inl rfl) (pcall GC (hr.mono (by decide)) (passE (E := E) fun _ _ _ z => z) (pa_cons (pv 0) (pa_cons (pgi T.colon) pa_nil))))
      (pss_cons (ps_if (pt_cmpR op_ne (plen_seq T.len (pv 1)) pe_int (nomark _)) (pss_one (ps_raise0 L.cls L.ni throws_cx rfl rfl rfl L.mg)) pss_nil)
      (pss_one (ps_ret (pe_tup (pa_cons (pcall GN hr (passE (E := E) fun _ _ _ z => z) (pa_cons (pe_ix ix_list (pv 1) pe_int (fun _ _ => rfl)) pa_nil))
        (pa_cons (pcall GS hr (passE (E := E) fun _ _ _ z => z) (pa_cons (pe_ix ix_list (pv 1) pe_int (fun _ _ => rfl)) pa_nil)) pa_nil)))))), ?_⟩
    refine ⟨_, rfl, a, b, 58, rfl, sq, le, fun l as H1 nl s1 pc na => ?_⟩
    refine ⟨_, rfl, l, _, rfl, .inl (sq_lst pc.1), rfl, _, rfl, ?_⟩
    have al := pc.2.len
    rw [decI, refs_length]
    by_cases h2 : as.length = 2
    case neg =>
      (rw [decide_eq_false (by omega)])
      refine iteT ((k l H1 s1).2 ?_)
      unfold Tb.readColumn
      split
      · rename_i p q e
        rw [e] at al
        exact absurd al h2
      · rfl
    case pos =>
      (rw [decide_eq_true (by omega)])
      obtain ⟨p, q, e⟩ : ∃ p q, Tb.cutAt 58 b = [p, q] := by
        match h : Tb.cutAt 58 b with
        | [] => rw [h, h2] at al; exact absurd al (by simp)
        | [_] => rw [h, h2] at al; exact absurd al (by simp)
        | [p, q] => exact ⟨p, q, rfl⟩
        | _ :: _ :: _ :: _ => rw [h, h2] at al; exact absurd al (by simp)
      have lp : p.length ≤ 66000 := Nat.le_trans (cut_le (m := 58) (b := b) (by rw [e]; exact List.mem_cons_self)) le
      have lq : q.length ≤ 66000 := Nat.le_trans (cut_le (m := 58) (b := b) (by rw [e]; exact List.mem_cons_of_mem _ List.mem_cons_self)) le
      obtain ⟨pc1, pc2⟩ := pc
      rw [e] at pc2
      cases pc2 with
      | cons r1 t =>
      cases t with
      | cons r2 t =>
      cases t with
      | nil =>
      rename_i a1 a2
      have ek : Tb.readColumn b = (Tb.readName p).bind fun n => (Tb.readSort q).map fun s => (n, s) := by unfold Tb.readColumn; rw [e]
      refine iteF ⟨_, rfl, l, _, _, .ref a1, rfl, rfl, sq_lst pc1, rfl, a1, p, rfl, sq_lst r1, lp, fun H2 s2 => ⟨fun u hu => ?_, fun hu => ?_⟩⟩
      · refine ⟨_, rfl, l, _, _, .ref a2, rfl, rfl, sq_lst (s2 _ _ pc1), rfl, a2, q, rfl, sq_lst (s2 _ _ r2), lq, fun H3 s3 => ⟨fun so hn => ?_, fun hn => ?_⟩⟩
        · have s5 := (s1.trans s2).trans s3
          exact ⟨(by show (2 : Nat) ≤ _; decide), fun p hp => (k p _ (s5.upd (s5.free hp))).1 (u, so) (by rw [ek, hu, hn]; rfl) upd_same⟩
        · exact (k l H3 ((s1.trans s2).trans s3)).2 (by rw [ek, hu, hn]; rfl)
      · exact (k l H2 (s1.trans s2)).2 (by rw [ek, hu]; rfl)
noncomputable def ColsAt (H : Hp) (l : Addr) (cols : List WrTabs.Col) : Prop := ∃ ps, H l = some (.lst (refs ps)) ∧ All2 (ColAt H) ps cols
theorem all_some {α : Type} : ∀ l : List α, Tb.allSome (l.map some) = some l
  | [] => rfl
  | a :: r => by rw [List.map_cons]; unfold Tb.allSome; rw [all_some r]; rfl
theorem all_none {α : Type} : ∀ {l : List (Option α)} {i : Nat}, l[i]? = some none → Tb.allSome l = none
  | [], _, h => nomatch h
  | none :: _, _, _ => rfl
  | some a :: r, 0, h => nomatch h
  | some a :: r, i + 1, h => by unfold Tb.allSome; rw [all_none (l := r) (i := i) h]; rfl
theorem map_snoc {α β : Type} {l : List α} {i : Nat} {x : α} {f : α → Option β} {cs : List β} {c : β} (h : (l.take i).map f = cs.map some) (hx : l[i]? = some x) (hf : f x = some c) : (l.take (i + 1)).map f = (cs ++ [c]).map some := by
  rw [take_snoc hx, List.map_append, h, List.map_append, List.map_singleton, hf]; rfl
noncomputable def spCols (K : PySem.W.Frag) (CL : Addr) : Sp := fun vs H Q E => ∃ (a : Addr) (b : WrTabs.Bytes), vs = [.ref a] ∧ SqL K H a (bs b) ∧ b.length ≤ 66000 ∧
  ∀ l H', Same H H' → Ans (Tb.readColumns b) (fun cols => H l = none → ColsAt H' l cols → Q (.ref l) H') (E (.ref CL) none H')
theorem scCols : FnScope ["line", "pieces", "columns", "piece", "names", "column"] ["line"] (defScope sCols) := ⟨rfl, rfl, rfl, by decide +kernel, rfl, by decide +kernel, by decide +kernel⟩
theorem nodup_str (cs : List WrTabs.Col) : (cs.map fun c => strOf c.1).Nodup ↔ (cs.map fun (x : WrTabs.Col) => x.1).Nodup := by
  unfold List.Nodup
  (rw [List.pairwise_map, List.pairwise_map])
  constructor
  · intro h; exact h.imp fun q e => q (by rw [e])
  · intro h; exact h.imp fun q e => q (strOf_inj e)
theorem ok_cols {f : Addr} {fd : FuncData} (F : Fun K "read_columns" "read_columns" sCols f fd) (T : Txt mg) (L : Lnr K mg CL mL) (GC : Fn P w K mg base "cut_at" 1 ["row", "mark"] (spCut K)) (GR : Fn P w K mg base "read_column" 5 ["row"] (spCol K CL)) :
    FnOk P w K mg base (CXE P w) 6 f fd ["line"] (spCols K CL) := by
  refine F.okE scCols (fun vs H Q E h => ?_) (fun cdv A outer s H vs Q E hr h => ?_)
  · obtain ⟨a, b, rfl, _⟩ := h
    rfl
  · obtain ⟨a, b, rfl, sq, le, k⟩ := h
    have nd : (["line", "pieces", "columns", "piece", "names", "column"] : List Str).Nodup := by decide +kernel
    refine ⟨_, pss_cons (ps_set (i := 1) nd rfl (Or.inl rfl) (pcall GC (hr.mono (by decide)) (passE (E := E) fun _ _ _ z => z) (pa_cons (pv 0) (pa_cons (pgi T.comma) pa_nil))))
      (pss_cons (ps_if (pt_cmpR op_gt (plen_seq T.len (pv 1)) (pgi T.mostCols) (nomark _)) (pss_one (ps_raise0 L.cls L.ni throws_cx rfl rfl rfl L.mg)) pss_nil)
      (pss_cons (ps_setLcx (i := 2) (E := E) leaveE rfl rfl rfl rfl nd rfl rfl rfl (pi_list (pv 1)) (blkOk_by (own := [("piece", 3)]) rfl) (fun _ _ _ _ _ => pg_name (i := 3) nd rfl (Or.inl rfl)) (fun _ _ _ _ _ => pts_nil)
        (fun _ _ _ _ _ => pcall GR hr (passB fun _ _ _ z => z) (pa_cons (pv 3) pa_nil)))
      (pss_cons (ps_setLcx (i := 4) (E := E) leaveE rfl rfl rfl rfl nd rfl rfl rfl (pi_list (pv 2)) (blkOk_by (own := [("column", 5)]) rfl) (fun _ _ _ _ _ => pg_name (i := 5) nd rfl (Or.inl rfl)) (fun _ _ _ _ _ => pts_nil)
        (fun _ _ _ _ _ => pe_ix (r := rIxT K) ix_tup (pv 5) pe_int (fun _ _ => rfl)))
      (pss_cons (ps_if (pt_cmpR op_ne (pe_callB call_lenS rfl T.len PySem.boot_len (pa_cons (pe_callTy (call_setS rfl) rfl T.set (by rfl) (pa_cons (pv 4) pa_nil)) pa_nil)) (plen_seq T.len (pv 4)) (nomark _))
        (pss_one (ps_raise0 L.cls L.ni throws_cx rfl rfl rfl L.mg)) pss_nil)
      (pss_one (ps_ret (pv 2))))))), ?_⟩
    refine ⟨_, rfl, a, b, 44, rfl, sq, le, fun l as H1 nl s1 pc na => ?_⟩
    have al := pc.2.len
    refine ⟨_, rfl, l, _, rfl, .inl (sq_lst pc.1), _, _, rfl, rfl, _, rfl, ?_⟩
    rw [refs_length]
    refine iteD (fun h1 => ?_) (fun h1 => ?_)
    · refine (k l H1 s1).2 ?_
      unfold Tb.readColumns
      rw [if_pos (by omega)]
    have ek : Tb.readColumns b = (Tb.allSome ((Tb.cutAt 44 b).map Tb.readColumn)).bind fun c => if (c.map fun (x : WrTabs.Col) => x.1).Nodup then some c else none := by
      unfold Tb.readColumns
      rw [if_neg (by omega)]
    refine ⟨_, rfl, l, rfl, ⟨_, sq_lst pc.1⟩, fun D hD => lc_list (xs := refs as) (fun i H2 => ∃ ps cs, Same H1 H2 ∧ H2 D = some (.lst (refs ps)) ∧ All2 (ColAt H2) ps cs ∧ ((Tb.cutAt 44 b).take i).map Tb.readColumn = cs.map some)
      ⟨[], [], Same.new hD, upd_same, .nil, rfl⟩ ?_ ?_ ?_⟩
    · rintro i H2 _ ⟨ps, cs, s2, _⟩
      exact sq_lst (s2 _ _ pc.1)
    · rintro i x H2 hx ⟨ps, cs, s2, hd, all, mp⟩
      unfold refs at hx
      rw [List.getElem?_map] at hx
      cases hi : as[i]? with
      | none => rw [hi] at hx; cases hx
      | some ai =>
      rw [hi] at hx
      cases hx
      obtain ⟨pi, hpi, hai⟩ := pc.2.get hi
      have pm := List.mem_of_getElem? hpi
      have il := get_le hpi
      have lc := congrArg List.length mp
      rw [List.length_map, List.length_map, List.length_take] at lc
      refine ⟨rfl, yes ?_⟩
      refine iteT ⟨_, rfl, ai, pi, rfl, sq_lst (s2 _ _ hai), Nat.le_trans (cut_le pm) le, fun p H3 s3 => ⟨fun c hc ca => ?_, fun hc => ?_⟩⟩
      · have pD : p ≠ D := fun e => by
          have := s3 _ _ hd
          unfold ColAt at ca
          rw [e, this] at ca; cases ca
        refine ⟨_, s3 _ _ hd, ?_, ps ++ [p], cs ++ [c], (s2.trans s3).upd hD, by rw [upd_same, refs_snoc], (all.mono fun p' c' z => ?_).snoc ?_, map_snoc mp hpi hc⟩
        · rw [refs_length, all.len]; unfold sizeLine; omega
        · unfold ColAt at z ⊢
          rw [upd_ne, s3 _ _ z]
          intro e; rw [e, hd] at z; cases z
        · unfold ColAt at ca ⊢
          rw [upd_ne pD]; exact ca
      · refine (k l H3 ((s1.trans s2).trans s3)).2 ?_
        rw [ek, all_none (i := i)]
        · rfl
        · rw [List.getElem?_map, hpi, ← hc]; rfl
    · rintro H2 ⟨ps, cs, s2, hd, all, mp⟩
      rw [refs_length, al, List.take_length] at mp
      have lc := congrArg List.length mp
      rw [List.length_map, List.length_map] at lc
      have ek2 : Tb.readColumns b = if (cs.map fun (x : WrTabs.Col) => x.1).Nodup then some cs else none := by
        rw [ek, mp, all_some]; rfl
      refine ⟨_, rfl, D, rfl, ⟨_, sq_lst hd⟩, fun D2 hD2 => lc_list (xs := refs ps) (fun i H3 => Same H2 H3 ∧ H3 D2 = some (.lst ((cs.take i).map fun c => V.str (strOf c.1))))
        ⟨Same.new hD2, upd_same⟩ ?_ ?_ ?_⟩
      · rintro i H3 _ ⟨s3, _⟩
        exact sq_lst (s3 _ _ hd)
      · rintro i x H3 hx ⟨s3, hd2⟩
        unfold refs at hx
        rw [List.getElem?_map] at hx
        cases hi : ps[i]? with
        | none => rw [hi] at hx; cases hx
        | some pi =>
        rw [hi] at hx
        cases hx
        obtain ⟨ci, hci, hpi⟩ := all.get hi
        have il := get_le hci
        refine ⟨rfl, yes ?_⟩
        refine iteT ⟨_, rfl, pi, _, 0, .str (strOf ci.1), rfl, rfl, SqT.of (s3 _ _ hpi), atI_nat (j := 0) rfl, _, hd2, ?_, s3.upd hD2, ?_⟩
        · rw [List.length_map, List.length_take]; unfold sizeLine; omega
        · rw [upd_same, take_snoc hci, List.map_append]; rfl
      · rintro H3 ⟨s3, hd2⟩
        rw [refs_length, all.len, List.take_length] at hd2
        have sm := (s1.trans s2).trans s3
        have em : (cs.map fun c => V.str (strOf c.1)) = (cs.map fun c => strOf c.1).map V.str := by rw [List.map_map]; rfl
        refine ⟨_, rfl, D2, cs.map fun c => strOf c.1, rfl, sq_lst (by rw [hd2, em]), ?_, fun S hS => ?_⟩
        · rw [List.length_map]; omega
        have dl := ddL_le _ (cs.map fun c => strOf c.1) rfl
        have dn := ddL_nodup _ (cs.map fun c => strOf c.1) rfl
        rw [List.length_map] at dl dn
        have sm4 := sm.upd (o := SetS P w S (ddL (cs.map fun c => strOf c.1)).length) (sm.free hS)
        have hd4 := (Same.new hS : Same H3 (upd H3 S (SetS P w S (ddL (cs.map fun c => strOf c.1)).length)))
        refine ⟨S, _, rfl, upd_same, by omega, _, rfl, D2, _, rfl, .inl (sq_lst (hd4 _ _ hd2)), rfl, _, rfl, ?_⟩
        rw [decI, List.length_map]
        by_cases hn : (cs.map fun (x : WrTabs.Col) => x.1).Nodup
        · rw [decide_eq_true (by rw [dn.mpr ((nodup_str cs).mpr hn)])]
          refine iteF ⟨_, rfl, (k D _ sm4).1 cs (by rw [ek2, if_pos hn]) (s1.free hD) ⟨ps, hd4 _ _ (s3 _ _ hd), all.mono fun p c z => hd4 _ _ (s3 _ _ z)⟩⟩
        · rw [decide_eq_false (fun z => hn ((nodup_str cs).mp (dn.mp (by omega))))]
          exact iteT ((k D _ sm4).2 (by rw [ek2, if_neg hn]))
end
end TbP

namespace L2
open PySem PySem.Spec PyProof.Rows
theorem lc_zip {K : PySem.W.Frag} {a b : Addr} {xs ys : List V} {g : TG} {tt : TT} {te : TE} {vs : List Nat} {σ : St} {H1 : Hp} {D : Addr} {Qd : Hp → Prop} (hn : xs.length = ys.length) (Pv : Nat → Hp → Prop) (h0 : Pv 0 (upd H1 D (.lst [])))
    (hl : ∀ i H, i ≤ xs.length → Pv i H → SqL K H a xs ∧ SqL K H b ys)
    (hs : ∀ i x y T H, xs[i]? = some x → ys[i]? = some y → Pv i H → H T = none → g (.ref T) (wipe σ vs) (upd H T (.tup [x, y])) fun σ2 H2 => wipe σ2 vs = wipe σ vs ∧ tt σ2 H2 fun c H3 =>
      if c = true then te σ2 H3 fun z H4 => ∃ acc, H4 D = some (.lst acc) ∧ acc.length < sizeLine ∧ Pv (i + 1) (upd H4 D (.lst (acc ++ [z]))) else Pv (i + 1) H3) (hd : ∀ H, Pv xs.length H → Qd H) :
    ∃ W : Nat → Nat → Hp → Prop, (∃ m, W 0 m (upd H1 D (.lst []))) ∧ ∀ i m H, W i m H →
      ((Itz K a b).stop i H ∧ Qd H) ∨ ((Itz K a b).go i H ∧ ∃ Nx : Hp → Prop, (∀ H', Nx H' → ∃ m', m' < m ∧ W (i + 1) m' H') ∧ ∀ x H', (Itz K a b).yld i H x H' → g x (wipe σ vs) H' fun σ2 H2 => wipe σ2 vs = wipe σ vs ∧ tt σ2 H2 fun c H3 =>
        if c = true then te σ2 H3 fun z H4 => ∃ acc, H4 D = some (.lst acc) ∧ acc.length < sizeLine ∧ Nx (upd H4 D (.lst (acc ++ [z]))) else Nx H3) := by
  refine ⟨fun i m H => m = xs.length - i ∧ i ≤ xs.length ∧ Pv i H, ⟨xs.length, by simp, Nat.zero_le _, h0⟩, ?_⟩
  rintro i m H ⟨rfl, hi, p⟩
  obtain ⟨q1, q2⟩ := hl i H hi p
  by_cases hlt : i < xs.length
  · have hlt2 : i < ys.length := by omega
    have g1 : xs[i]? = some xs[i] := by simp [hlt]
    have g2 : ys[i]? = some ys[i] := by simp [hlt2]
    refine .inr ⟨⟨xs, ys, _, _, q1, q2, g1, g2⟩, Pv (i + 1), fun H' p' => ⟨xs.length - (i + 1), by omega, rfl, hlt, p'⟩, fun v H' z => ?_⟩
    obtain ⟨T, x, y, rfl, hT, rfl, e1, e2⟩ := z
    exact hs i x y T H (e1 xs q1) (e2 ys q2) p hT
  · have e : i = xs.length := by omega
    subst e
    exact .inl ⟨⟨xs, ys, q1, q2, .inl (Nat.le_refl _)⟩, hd H p⟩
theorem for_enum {K : PySem.W.Frag} {a : Addr} {xs : List V} {g : TG} {tb : TS} {D : Ends} {σ : St} {H : Hp} (Pv : Nat → St → Hp → Prop) (h0 : Pv 0 σ H) (hl : ∀ i σ H, i ≤ xs.length → Pv i σ H → SqL K H a xs)
    (hs : ∀ i x T σ H, xs[i]? = some x → Pv i σ H → H T = none → g (.ref T) σ (upd H T (.tup [.int (i : Nat), x])) fun σ2 H2 => tb { D with nx := Pv (i + 1), ct := Pv (i + 1), bk := D.nx } σ2 H2) (hd : ∀ σ H, Pv xs.length σ H → D.nx σ H) :
    ∃ W : Nat → Nat → St → Hp → Prop, (∃ m, W 0 m σ H) ∧ ∀ i m σ H, W i m σ H →
      ((Ite K a).stop i H ∧ D.nx σ H) ∨ ((Ite K a).go i H ∧ ∃ N : St → Hp → Prop, (∀ σ' H', N σ' H' → ∃ m', m' < m ∧ W (i + 1) m' σ' H') ∧ ∀ x H', (Ite K a).yld i H x H' → g x σ H' fun σ2 H2 => tb { D with nx := N, ct := N, bk := D.nx } σ2 H2) := by
  refine ⟨fun i m σ H => m = xs.length - i ∧ i ≤ xs.length ∧ Pv i σ H, ⟨xs.length, by simp, Nat.zero_le _, h0⟩, ?_⟩
  rintro i m σ H ⟨rfl, hi, p⟩
  have q := hl i σ H hi p
  by_cases hlt : i < xs.length
  · refine .inr ⟨⟨xs, xs[i], q, by simp [hlt]⟩, Pv (i + 1), fun σ' H' p' => ⟨xs.length - (i + 1), by omega, rfl, hlt, p'⟩, fun v H' z => ?_⟩
    obtain ⟨T, x, rfl, hT, rfl, e⟩ := z
    exact hs i x T σ H (e xs q) p hT
  · have e : i = xs.length := by omega
    subst e
    exact .inl ⟨⟨xs, q, Nat.le_refl _⟩, hd σ H p⟩
end L2
namespace TbP
open PySem PySem.Spec PyProof.Rows L2
section
variable {P : Program} {w : World} {K : PySem.W.Frag} {mg : Str → Option Value} {base : Heap} {CL CT : Addr} {mL : Str → Option Value}
structure TabC (K : PySem.W.Frag) (mg : Str → Option Value) (CT : Addr) : Prop where
  cls : Cls K CT
  nc : NoAttr K CT "columns"
  nr : NoAttr K CT "rows"
noncomputable def spTab (CT : Addr) : Sp := fun vs H Q _ => ∃ (x c r dx : Addr), vs = [.ref x, .ref c, .ref r] ∧ H x = some (.ins CT dx []) ∧ Q .non (upd H x (.ins CT dx [("columns", .ref c), ("rows", .ref r)]))
theorem scTab : FnScope ["self", "columns", "rows"] ["self", "columns", "rows"] (defScope sTabInit) := ⟨rfl, rfl, rfl, by decide +kernel, rfl, by decide +kernel, by decide +kernel⟩
theorem ok_tab {f : Addr} {fd : FuncData} (F : Fun K "__init__" "Table.__init__" sTabInit f fd) (C : TabC K mg CT) : FnOk P w K mg base (CXE P w) 1 f fd ["self", "columns", "rows"] (spTab CT) := by
  refine F.okE scTab (fun vs H Q E h => ?_) (fun cdv A outer s H vs Q E hr h => ?_)
  · obtain ⟨x, c, r, dx, rfl, _⟩ := h
    rfl
  · obtain ⟨x, c, r, dx, rfl, hx, k⟩ := h
    refine ⟨_, pss_cons (ps_fld (pv 0) (pv 1) rfl) (pss_one (ps_fld (pv 0) (pv 2) rfl)), ?_⟩
    refine ⟨_, rfl, _, rfl, x, CT, dx, [], rfl, hx, C.cls, C.nc, by decide, ?_⟩
    refine ⟨_, rfl, _, rfl, x, CT, dx, [("columns", .ref c)], rfl, upd_same, C.cls, C.nr, (by show (1 : Nat) < 1000; decide), ?_⟩
    rw [upd_upd]
    exact k
noncomputable def spCells (K : PySem.W.Frag) : Sp := fun vs H Q _ => ∃ (a : Addr) (b : WrTabs.Bytes), vs = [.ref a] ∧ SqL K H a (bs b) ∧ b.length ≤ 66000 ∧
  ∀ l as H', H l = none → Same H H' → Pcs H' l as (Tb.cutCells b) → Q (.ref l) H'
theorem cells_le (N : Nat) : ∀ (b : WrTabs.Bytes) (st : Tb.CutSt), st.pieces.length + b.length ≤ N → (∀ p ∈ st.pieces, p.length ≤ N) → st.piece.length + b.length ≤ N →
    (b.foldl Tb.cellStep st).pieces.length ≤ N ∧ (∀ p ∈ (b.foldl Tb.cellStep st).pieces, p.length ≤ N) ∧ (b.foldl Tb.cellStep st).piece.length ≤ N
  | [], st, h0, h1, h2 => ⟨h0, h1, h2⟩
  | c :: r, st, h0, h1, h2 => by
    rw [List.length_cons] at h0 h2
    rw [List.foldl_cons]
    refine cells_le N r _ ?_ ?_ ?_
    · unfold Tb.cellStep
      by_cases h : c = 44 ∧ st.quoted = false
      · simp only [if_pos h, List.length_append, List.length_singleton]; omega
      · simp only [if_neg h]; omega
    · unfold Tb.cellStep
      by_cases h : c = 44 ∧ st.quoted = false
      · simp only [if_pos h]
        intro p hp
        (rcases List.mem_append.mp hp with z | z)
        · exact h1 p z
        · rw [List.mem_singleton.mp z]; omega
      · simp only [if_neg h]; exact h1
    · unfold Tb.cellStep
      by_cases h : c = 44 ∧ st.quoted = false
      · simp only [if_pos h, List.length_nil]; omega
      · simp only [if_neg h, List.length_append, List.length_singleton]; omega
theorem cells_bound (b : WrTabs.Bytes) : (b.foldl Tb.cellStep ⟨[], [], false, false⟩).pieces.length ≤ b.length ∧ (∀ p ∈ (b.foldl Tb.cellStep ⟨[], [], false, false⟩).pieces, p.length ≤ b.length) ∧ (b.foldl Tb.cellStep ⟨[], [], false, false⟩).piece.length ≤ b.length :=
  cells_le b.length b ⟨[], [], false, false⟩ (by simp) (fun p z => nomatch z) (by simp)
theorem cells_mem {b p : WrTabs.Bytes} (h : p ∈ Tb.cutCells b) : p.length ≤ b.length := by
  have := cells_bound b
  unfold Tb.cutCells Tb.cellsEnd at h
  rcases List.mem_append.mp h with z | z
  · exact this.2.1 p z
  · rw [List.mem_singleton.mp z]; exact this.2.2
theorem scCells : FnScope ["line", "pieces", "piece", "quoted", "escaped", "byte"] ["line"] (defScope sCells) := ⟨rfl, rfl, rfl, by decide +kernel, rfl, by decide +kernel, by decide +kernel⟩
theorem ok_cells {f : Addr} {fd : FuncData} (F : Fun K "cut_cells" "cut_cells" sCells f fd) (T : Txt mg) : FnOk P w K mg base (CXE P w) 1 f fd ["line"] (spCells K) := by
  refine F.okE scCells (fun vs H Q E h => ?_) (fun cdv A outer s H vs Q E hr h => ?_)
  · obtain ⟨a, b, rfl, _⟩ := h
    rfl
  · obtain ⟨a, b, rfl, sq, le, k⟩ := h
    have nd : (["line", "pieces", "piece", "quoted", "escaped", "byte"] : List Str).Nodup := by decide +kernel
    refine ⟨_, pss_cons (ps_set (i := 1) nd rfl (Or.inl rfl) (pe_lst pa_nil)) (pss_cons (ps_set (i := 2) nd rfl (Or.inl rfl) (pe_lst pa_nil))
      (pss_cons (ps_set (i := 3) nd rfl (Or.inl rfl) pe_bl) (pss_cons (ps_set (i := 4) nd rfl (Or.inl rfl) pe_bl)
      (pss_cons (ps_for PassesOwn.leaving rfl (pi_list (pv 0)) (pg_name (i := 5) nd rfl (Or.inl rfl))
        (pss_cons (ps_if (PW.pt (pw_and (pt_cmpR op_eq (pv 5) (pgi T.comma) (nomark _)) (pw_and1 (pt_not (pt_val (pv 3))))))
          (pss_cons (ps_expr (pe_bm PySem.F.plainAttrs_list PySem.F.slot_list_append PySem.F.type_list_append mt_append (pv 1) (pa_cons (pv 2) pa_nil)))
            (pss_one (ps_set (i := 2) nd rfl (Or.inl rfl) (pe_lst pa_nil))))
          (pss_one (ps_expr (pe_bm PySem.F.plainAttrs_list PySem.F.slot_list_append PySem.F.type_list_append mt_append (pv 2) (pa_cons (pv 5) pa_nil)))))
        (pss_cons (ps_if (PW.pt (pw_and (pt_cmpR op_eq (pv 5) (pgi T.quote) (nomark _)) (pw_and1 (pt_not (pt_val (pv 4)))))) (pss_one (ps_set (i := 3) nd rfl (Or.inl rfl) (pe_not (pv 3)))) pss_nil)
        (pss_one (ps_set (i := 4) nd rfl (Or.inl rfl) (pe_and (pe_cmpR op_eq (pv 5) (pgi T.back) (nomark _)) (pe_one (pe_not (pv 4)))))))))
      (pss_cons (ps_expr (pe_bm PySem.F.plainAttrs_list PySem.F.slot_list_append PySem.F.type_list_append mt_append (pv 1) (pa_cons (pv 2) pa_nil)))
      (pss_one (ps_ret (pv 1)))))))), ?_⟩
    refine ⟨Nat.zero_le _, fun p hp => ⟨Nat.zero_le _, fun q hq => ?_⟩⟩
    refine ⟨_, rfl, a, rfl, ⟨bs b, (Cut.start hp hq).same.seq sq⟩, for_list (xs := bs b) (fun i σ H' => ∃ p q as o st, st = (b.take i).foldl Tb.cellStep ⟨[], [], false, false⟩ ∧ σ = [some (.ref a), some (.ref p), some (.ref q), some (.bl st.quoted), some (.bl st.escaped), o] ∧ Cut H H' p q as st.pieces st.piece)
      ⟨p, q, [], none, _, rfl, rfl, Cut.start hp hq⟩ ?_ ?_ ?_⟩
    · rintro i σ H' _ ⟨p, q, as, o, st, _, rfl, C⟩
      exact C.same.seq sq
    · rintro i x σ H' hx ⟨p, q, as, o, st, hst, rfl, C⟩
      obtain ⟨c, hc, rfl⟩ := bs_get hx
      have il := get_le hc
      have bd := cells_bound (b.take i)
      rw [List.length_take, ← hst] at bd
      have stp : (b.take (i + 1)).foldl Tb.cellStep ⟨[], [], false, false⟩ = Tb.cellStep st c := by
        rw [take_snoc hc, List.foldl_append, ← hst]; rfl
      have al := C.all.len
      have n1 : (refs as).length < sizeLine := by rw [refs_length, al]; unfold sizeLine; omega
      have n2 : (bs st.piece).length < sizeLine := by rw [bs_length]; unfold sizeLine; omega
      have rest : ∀ q' as' H2, Cut H H2 p q' as' (Tb.cellStep st c).pieces (Tb.cellStep st c).piece →
          tSeq (tIfS (tAnd (tTest (tOp rEq (tVar 5) (tC (.int 34)))) (tNot (tB (tVar 4)))) (tAsg (tNotV (tVar 3)) (gName 3)) tNext) (tAsg (tAndV (tOp rEq (tVar 5) (tC (.int 92))) (tNotV (tVar 4))) (gName 4))
          { nx := fun σ H' => ∃ p q as o st, st = (b.take (i + 1)).foldl Tb.cellStep ⟨[], [], false, false⟩ ∧ σ = [some (.ref a), some (.ref p), some (.ref q), some (.bl st.quoted), some (.bl st.escaped), o] ∧ Cut H H' p q as st.pieces st.piece
            rt := Q }
          [some (.ref a), some (.ref p), some (.ref q'), some (.bl st.quoted), some (.bl st.escaped), some (.int (c.toNat : Int))] H2 := by
        intro q' as' H2 C2
        have fin : ∀ qd, qd = (Tb.cellStep st c).quoted → tAsg (tAndV (tOp rEq (tVar 5) (tC (.int 92))) (tNotV (tVar 4))) (gName 4)
            { nx := fun σ H' => ∃ p q as o st, st = (b.take (i + 1)).foldl Tb.cellStep ⟨[], [], false, false⟩ ∧ σ = [some (.ref a), some (.ref p), some (.ref q), some (.bl st.quoted), some (.bl st.escaped), o] ∧ Cut H H' p q as st.pieces st.piece
              rt := Q }
            [some (.ref a), some (.ref p), some (.ref q'), some (.bl qd), some (.bl st.escaped), some (.int (c.toNat : Int))] H2 := by
          intro qd hqd
          refine ⟨_, rfl, rfl, _, rfl, ?_⟩
          rw [eqB 92 92 c rfl]
          have he : (Tb.cellStep st c).escaped = (decide (c = 92) && !st.escaped) := rfl
          by_cases h : c = 92
          · rw [decide_eq_true h]
            refine iteT ⟨_, rfl, st.escaped, rfl, p, q', as', some (.int (c.toNat : Int)), Tb.cellStep st c, stp.symm, ?_, C2⟩
            rw [he, decide_eq_true h, ← hqd]; rfl
          · rw [decide_eq_false h]
            refine iteF ⟨p, q', as', some (.int (c.toNat : Int)), Tb.cellStep st c, stp.symm, ?_, C2⟩
            rw [he, decide_eq_false h, ← hqd]; rfl
        refine ⟨_, rfl, rfl, _, rfl, ?_⟩
        rw [eqB 34 34 c rfl]
        by_cases h : c = 34
        · rw [decide_eq_true h]
          refine iteT ⟨_, rfl, st.escaped, rfl, ?_⟩
          cases hes : st.escaped with
          | true =>
            rw [hes] at fin
            exact iteF (fin _ (by unfold Tb.cellStep; simp [hes]))
          | false =>
            rw [hes] at fin
            exact iteT ⟨_, rfl, st.quoted, rfl, fin _ (by unfold Tb.cellStep; simp [hes, h])⟩
        · rw [decide_eq_false h]
          exact iteF (iteF (fin _ (by unfold Tb.cellStep; simp [h])))
      refine ⟨_, rfl, rfl, _, rfl, ?_⟩
      rw [eqB 44 44 c rfl]
      have noc : ¬ (c = 44 ∧ st.quoted = false) → Cut H (upd H' q (.lst (bs st.piece ++ [.int (c.toNat : Int)]))) p q as (Tb.cellStep st c).pieces (Tb.cellStep st c).piece := by
        intro h
        have e1 : (Tb.cellStep st c).pieces = st.pieces := by unfold Tb.cellStep; simp only [if_neg h]
        have e2 : (Tb.cellStep st c).piece = st.piece ++ [c] := by unfold Tb.cellStep; simp only [if_neg h]
        rw [e1, e2]
        exact C.add c
      by_cases h : c = 44
      · rw [decide_eq_true h]
        refine iteT ⟨_, rfl, st.quoted, rfl, ?_⟩
        cases hqt : st.quoted with
        | true =>
          refine iteF ⟨_, rfl, Or.inl ⟨rfl, _, sq_lst C.hq⟩, _, rfl, q, _, _, rfl, rfl, C.hq, n2, ?_⟩
          have := rest q as _ (noc fun z => by rw [hqt] at z; cases z.2)
          rw [hqt] at this
          exact this
        | false =>
          refine iteT ⟨_, rfl, Or.inl ⟨rfl, _, sq_lst C.hp⟩, _, rfl, p, _, _, rfl, rfl, C.hp, n1, Nat.zero_le _, fun r hr' => ?_⟩
          have e1 : (Tb.cellStep st c).pieces = st.pieces ++ [st.piece] := by unfold Tb.cellStep; simp only [if_pos (And.intro h hqt)]
          have e2 : (Tb.cellStep st c).piece = [] := by unfold Tb.cellStep; simp only [if_pos (And.intro h hqt)]
          have := rest r (as ++ [q]) _ (by rw [e1, e2]; exact C.cut hr')
          rw [hqt] at this
          exact this
      · rw [decide_eq_false h]
        exact iteF (iteF ⟨_, rfl, Or.inl ⟨rfl, _, sq_lst C.hq⟩, _, rfl, q, _, _, rfl, rfl, C.hq, n2, rest q as _ (noc fun z => h z.1)⟩)
    · rintro σ H' ⟨p, q, as, o, st, hst, rfl, C⟩
      rw [bs_length, List.take_length] at hst
      have bd := cells_bound b
      rw [← hst] at bd
      have al := C.all.len
      have n1 : (refs as).length < sizeLine := by rw [refs_length, al]; unfold sizeLine; omega
      refine ⟨_, rfl, Or.inl ⟨rfl, _, sq_lst C.hp⟩, _, rfl, p, _, _, rfl, rfl, C.hp, n1, ?_⟩
      refine ⟨_, rfl, k p (as ++ [q]) _ C.np C.done.1 ?_⟩
      unfold Tb.cutCells Tb.cellsEnd
      rw [← hst]
      exact C.done.2.1
theorem CellAt.same {H H' : Hp} {v : V} {m : Tb.MCell} (h : CellAt H v m) (s : Same H H') : CellAt H' v m := by
  cases m with
  | none => exact h
  | whole z => exact h
  | frac u l => obtain ⟨p, e, q⟩ := h; exact ⟨p, e, s _ _ q⟩
  | text b => obtain ⟨p, e, q⟩ := h; exact ⟨p, e, s _ _ q⟩
  | truth b => exact h
theorem CellAt.upd {H : Hp} {v : V} {m : Tb.MCell} {a : Addr} {o o' : HO} (h : CellAt H v m) (ha : H a = some o) (ho : ∀ xs, o ≠ .tup xs) : CellAt (upd H a o') v m := by
  cases m with
  | none => exact h
  | whole z => exact h
  | frac u l =>
    obtain ⟨p, e, q⟩ := h
    exact ⟨p, e, by rw [upd_ne (fun z => by rw [z, ha] at q; cases q; exact ho _ rfl)]; exact q⟩
  | text b =>
    obtain ⟨p, e, q⟩ := h
    exact ⟨p, e, by rw [upd_ne (fun z => by rw [z, ha] at q; cases q; exact ho _ rfl)]; exact q⟩
  | truth b => exact h
noncomputable def RowAt (H : Hp) (v : V) (ms : List Tb.MCell) : Prop := ∃ D vs, v = .ref D ∧ H D = some (.lst vs) ∧ All2 (CellAt H) vs ms
theorem RowAt.same {H H' : Hp} {v : V} {ms : List Tb.MCell} (h : RowAt H v ms) (s : Same H H') : RowAt H' v ms := by
  obtain ⟨D, vs, e, q, a⟩ := h
  exact ⟨D, vs, e, s _ _ q, a.mono fun _ _ z => z.same s⟩
theorem RowAt.upd {H : Hp} {v : V} {ms : List Tb.MCell} {a : Addr} {o o' : HO} (h : RowAt H v ms) (ha : H a = some o) (ho : ∀ xs, o ≠ .tup xs) (hv : v ≠ .ref a) : RowAt (upd H a o') v ms := by
  obtain ⟨D, vs, e, q, al⟩ := h
  exact ⟨D, vs, e, by rw [upd_ne (fun z => hv (by rw [e, z]))]; exact q, al.mono fun _ _ z => z.upd ha ho⟩
noncomputable def spRow (K : PySem.W.Frag) (CL : Addr) : Sp := fun vs H Q E => ∃ (a c : Addr) (b : WrTabs.Bytes) (cols : List WrTabs.Col), vs = [.ref a, .ref c] ∧ SqL K H a (bs b) ∧ b.length ≤ 66000 ∧ ColsAt H c cols ∧
  ∀ v H', Same H H' → Ans (Tb.readRow b cols) (fun ms => RowAt H' v ms → (∀ D, v = .ref D → H D = none) → Q v H') (E (.ref CL) none H')
theorem scRow : FnScope ["line", "columns", "pieces", "piece", "column"] ["line", "columns"] (defScope sRow) := ⟨rfl, rfl, rfl, by decide +kernel, rfl, by decide +kernel, by decide +kernel⟩
theorem refs_get {as : List Addr} {i : Nat} {x : V} (h : (refs as)[i]? = some x) : ∃ a, as[i]? = some a ∧ x = .ref a := by
  unfold refs at h
  rw [List.getElem?_map] at h
  cases e : as[i]? with
  | none => rw [e] at h; cases h
  | some c => rw [e] at h; exact ⟨c, rfl, (Option.some.inj h).symm⟩
theorem ok_row {f : Addr} {fd : FuncData} (F : Fun K "read_row" "read_row" sRow f fd) (T : Txt mg) (L : Lnr K mg CL mL) (GC : Fn P w K mg base "cut_cells" 1 ["line"] (spCells K)) (GR : Fn P w K mg base "read_cell" 5 ["row", "sort"] (spCell K CL)) :
    FnOk P w K mg base (CXE P w) 6 f fd ["line", "columns"] (spRow K CL) := by
  refine F.okE scRow (fun vs H Q E h => ?_) (fun cdv A outer s H vs Q E hr h => ?_)
  · obtain ⟨a, c, b, cols, rfl, _⟩ := h
    rfl
  · obtain ⟨a, c, b, cols, rfl, sq, le, ⟨cs, hc, hall⟩, k⟩ := h
    have nd : (["line", "columns", "pieces", "piece", "column"] : List Str).Nodup := by decide +kernel
    refine ⟨_, pss_cons (ps_set (i := 2) nd rfl (Or.inl rfl) (pcall GC (hr.mono (by decide)) (passE (E := E) fun _ _ _ z => z) (pa_cons (pv 0) pa_nil)))
      (pss_cons (ps_if (pt_cmpR op_ne (plen_seq T.len (pv 2)) (plen_seq T.len (pv 1)) (nomark _)) (pss_one (ps_raise0 L.cls L.ni throws_cx rfl rfl rfl L.mg)) pss_nil)
      (pss_one (ps_ret (pe_lcx (E := E) (g := gTup K 2 (gCons (gName 3) (gCons (gName 4) gNil))) leaveE rfl rfl rfl rfl nd (pi_zip rfl T.zip (pa_cons (pv 2) (pa_cons (pv 1) pa_nil))) (blkOk_by (own := [("piece", 3), ("column", 4)]) rfl)
        (fun _ _ _ _ _ => pg_tup rfl (pgs_cons (pg_name (i := 3) nd rfl (Or.inl rfl)) (pgs_cons (pg_name (i := 4) nd rfl (Or.inl rfl)) pgs_nil))) (fun _ _ _ _ _ => pts_nil)
        (fun _ _ _ _ _ => pcall GR hr (passB fun _ _ _ z => z) (pa_cons (pv 3) (pa_cons (pe_ix (r := rIxT K) ix_tup (pv 4) pe_int (fun _ _ => rfl)) pa_nil))))))), ?_⟩
    refine ⟨_, rfl, a, b, rfl, sq, le, fun l as H1 nl s1 pc => ?_⟩
    have al := pc.2.len
    have cl := hall.len
    refine ⟨_, rfl, l, _, rfl, .inl (sq_lst pc.1), _, rfl, c, _, rfl, .inl (sq_lst (s1 _ _ hc)), rfl, _, rfl, ?_⟩
    rw [decI, refs_length, refs_length]
    by_cases h1 : as.length = cs.length
    case neg =>
      (rw [decide_eq_false (by omega)])
      refine iteT ((k .non H1 s1).2 ?_)
      unfold Tb.readRow
      rw [if_neg (by omega)]
    case pos =>
      (rw [decide_eq_true (by omega)])
      have ek : Tb.readRow b cols = Tb.allSome (((Tb.cutCells b).zip cols).map fun p => Tb.readCell p.1 p.2.2) := by
        unfold Tb.readRow
        rw [if_pos (by omega)]
      have zl : ((Tb.cutCells b).zip cols).length = as.length := by rw [List.length_zip]; omega
      have bd := (cells_bound b).1
      have cb : (Tb.cutCells b).length ≤ 66001 := by
        unfold Tb.cutCells Tb.cellsEnd
        (rw [List.length_append, List.length_singleton]; omega)
      refine iteF ⟨_, rfl, _, rfl, l, c, _, _, rfl, sq_lst pc.1, sq_lst (s1 _ _ hc), fun D hD => lc_zip (xs := refs as) (ys := refs cs) (by rw [refs_length, refs_length]; exact h1)
        (fun i H2 => ∃ acc ms, Same H1 H2 ∧ H2 D = some (.lst acc) ∧ acc.length = i ∧ All2 (CellAt H2) acc ms ∧ (((Tb.cutCells b).zip cols).take i).map (fun p => Tb.readCell p.1 p.2.2) = ms.map some)
        ⟨[], [], Same.new hD, upd_same, rfl, .nil, rfl⟩ ?_ ?_ ?_⟩
      · rintro i H2 _ ⟨acc, ms, s2, _⟩
        exact ⟨sq_lst (s2 _ _ pc.1), sq_lst (s2 _ _ (s1 _ _ hc))⟩
      · rintro i x y TT H2 hx hy ⟨acc, ms, s2, hd, ha, hal, mp⟩ hT
        obtain ⟨ai, hai, rfl⟩ := refs_get hx
        obtain ⟨ci, hci, rfl⟩ := refs_get hy
        obtain ⟨pi, hpi, hp⟩ := pc.2.get hai
        obtain ⟨co, hco, hcc⟩ := hall.get hci
        have il := get_le hai
        have hz : ((Tb.cutCells b).zip cols)[i]? = some (pi, co) := List.getElem?_zip_eq_some.mpr ⟨hpi, hco⟩
        have s3 := s2.upd (o := .tup [.ref ai, .ref ci]) (s2.free hT)
        refine ⟨TT, _, rfl, SqT.of upd_same, rfl, _, _, rfl, _, _, rfl, rfl, rfl, yes ?_⟩
        refine iteT ⟨_, rfl, _, rfl, ci, _, 1, .str (sortStr co.2), rfl, rfl, SqT.of (s3 _ _ (s1 _ _ hcc)), atI_nat (j := 1) rfl, ai, pi, co.2, rfl, sq_lst (s3 _ _ hp), Nat.le_trans (cells_mem (List.mem_of_getElem? hpi)) le, fun v H3 s4 => ⟨fun m hm hcm => ?_, fun hm => ?_⟩⟩
        · have DT : D ≠ TT := ne_of_none hd hT
          have hd3 : H3 D = some (.lst acc) := s4 _ _ (by rw [upd_ne DT]; exact hd)
          refine ⟨acc, hd3, ?_, acc ++ [v], ms ++ [m], (s3.trans s4).upd hD, upd_same, ?_, (hal.mono fun _ _ z => ((z.same (Same.new hT)).same s4).upd hd3 (fun _ q => nomatch q)).snoc (hcm.upd hd3 (fun _ q => nomatch q)), map_snoc mp hz hm⟩
          · unfold sizeLine; omega
          · rw [List.length_append, ha]; rfl
        · refine (k .non H3 (s1.trans (s3.trans s4))).2 ?_
          rw [ek, all_none (i := i)]
          rw [List.getElem?_map, hz, ← hm]; rfl
      · rintro H2 ⟨acc, ms, s2, hd, ha, hal, mp⟩
        rw [refs_length, ← zl, List.take_length] at mp
        exact (k (.ref D) H2 (s1.trans s2)).1 ms (by rw [ek, mp, all_some]) ⟨D, acc, rfl, hd, hal⟩ (fun D' e => by cases e; exact s1.free hD)
end
end TbP

namespace L2
open PySem PySem.Spec PyProof.Rows
section
variable {X : Cx} {C : Addr} {m : Str → Option Value} {x cx : Str} {k : Nat} {ps : List Str} {sp : Sp} {e : Expr} {es : List Expr} {t : TA} {p pos epos np hpos tpos : Pos} {b0 : Stmt} {suite : List Stmt}
theorem pcallT {p0 : List (Addr × Obj)} {ES : St → XK} (G : Fn X.prog X.w X.K X.mg X.base x k ps sp) (hr : Room k X.A) (ha : PA (X.tryS p0 ES) (e :: es) t) (hgx : Gl X x := by rfl) (hdb : (x == ("__debug__" : Str)) = false := by decide)
    (he : starEach (e :: es) X.env = (false, eval e X.env) :: starEach es X.env := by rfl) (hpl : (backTo pos (starEach es X.env)).any (·.1) = false := by rfl) : PE (X.tryS p0 ES) (.Call (.Name x p) (e :: es) [] pos) (tCallS sp ES t) := by
  obtain ⟨f, fd, g1, g2, g3, g4⟩ := G.ex
  exact pcallS g4 hr hgx g1 g2 g3 ha hdb he hpl
noncomputable def tXf (te : TE) (a dx : Addr) (attr : Str) : TE := fun σ H Q => te σ H fun x H1 => ∃ i fs, x = .ref a ∧ H1 dx = some (.xd fs) ∧ fs.lookup attr = some (.int i) ∧ Q (.int i) H1
theorem pe_xfld {a dx : Addr} {oe : Obj} {te : TE} {attr : Str} (T : XCls X.K C m) (hna : m attr = none) (hga : m "__getattribute__" = none) (hgt : m "__getattr__" = none) (hB : typeLookup (.type "Exception") attr = pure none)
    (hp : (a, oe) ∈ X.pn) (Ct : Caught C (some dx) oe) (he : PE X e te) (hb : attributeBase e attr X.env (eval e X.env) = eval e X.env) : PE X (.Attribute e attr pos) (tXf te a dx attr) := by
  intro pins s σ H Q I h
  refine attr_of hb (thn (he pins s σ H _ I h) fun u s1 ⟨x, H1, I1, rx, i, fs, ex, ea, l, q⟩ => ?_)
  subst ex
  obtain rfl : u = Value.ref a := rx
  obtain ⟨nm, qn, N, bs, sn, sub, ab, col, dd, k0, k1, k2, k3, k5, lk, ns⟩ := T.ex
  obtain ⟨w3, _⟩ := I1.pin (a, oe) (List.mem_append_left _ hp)
  obtain ⟨mA, hns, rl⟩ := I1.hok dx _ ea
  have r2 := rl attr
  rw [l] at r2
  obtain ⟨vs, hvs, _⟩ := Ct.recd
  cases hma : mA attr with
  | none => rw [hma] at r2; exact absurd r2 id
  | some u =>
    rw [hma] at r2
    obtain ⟨tv, rfl⟩ := (show ∃ tv, u = .int i tv from r2)
    obtain ⟨hp1, g, d, tk, os⟩ := s1
    exact load_attr (I1.kIn _ _ lk) (ns _ I1.kIn) hna hga hgt hB w3 Ct.cls (fun c z => by rw [hvs] at z; cases z) Ct.dict hns.ns hma ⟨.int i, H1, I1.tok _, ⟨tv, rfl⟩, q⟩
end
end L2

namespace TbP
open PySem PySem.Spec PyProof.Rows L2
noncomputable def Keep (H H' : Hp) (t r : Addr) : Prop := ∀ b o, H b = some o → b ≠ t → b ≠ r → H' b = some o
theorem Keep.of {H H' : Hp} {t r : Addr} (h : Same H H') : Keep H H' t r := fun b o e _ _ => h b o e
theorem Keep.trans {H H1 H2 : Hp} {t r : Addr} (a : Keep H H1 t r) (b : Keep H1 H2 t r) : Keep H H2 t r := fun c o e n1 n2 => b c o (a c o e n1 n2) n1 n2
theorem Keep.updT {H H' : Hp} {t r : Addr} {o : HO} (a : Keep H H' t r) : Keep H (upd H' t o) t r := fun c u e n1 n2 => by rw [upd_ne n1]; exact a c u e n1 n2
theorem Keep.updR {H H' : Hp} {t r : Addr} {o : HO} (a : Keep H H' t r) : Keep H (upd H' r o) t r := fun c u e n1 n2 => by rw [upd_ne n2]; exact a c u e n1 n2
structure TabAt (CT : Addr) (H0 H : Hp) (t r : Addr) (m : Tb.MTable) : Prop where
  ex : ∃ (d c : Addr) (rs : List V), H t = some (.ins CT d [("columns", .ref c), ("rows", .ref r)]) ∧ c ≠ r ∧ ColsAt H c m.cols ∧ H r = some (.lst rs) ∧ All2 (fun v ms => RowAt H v ms ∧ v ≠ .ref r) rs m.rows ∧ H0 c = none ∧ H0 r = none ∧ ∀ D, V.ref D ∈ rs → H0 D = none
theorem ColsAt.same {H H' : Hp} {c : Addr} {cols : List WrTabs.Col} (h : ColsAt H c cols) (s : Same H H') : ColsAt H' c cols := by
  obtain ⟨ps, h1, h2⟩ := h
  exact ⟨ps, s _ _ h1, h2.mono fun p c z => s _ _ z⟩
theorem ColsAt.updI {H : Hp} {c t C d : Addr} {fs fs' : List (Str × V)} {cols : List WrTabs.Col} (h : ColsAt H c cols) (ht : H t = some (.ins C d fs)) : ColsAt (upd H t (.ins C d fs')) c cols := by
  obtain ⟨ps, h1, h2⟩ := h
  refine ⟨ps, ?_, h2.mono fun p c z => ?_⟩
  · rw [upd_ne]; exact h1
    intro e; rw [e, ht] at h1; cases h1
  · unfold ColAt at z ⊢
    rw [upd_ne]; exact z
    intro e; rw [e, ht] at z; cases z
theorem ColsAt.updL {H : Hp} {c r : Addr} {rs rs' : List V} {cols : List WrTabs.Col} (h : ColsAt H c cols) (cr : c ≠ r) (hr : H r = some (.lst rs)) : ColsAt (upd H r (.lst rs')) c cols := by
  obtain ⟨ps, h1, h2⟩ := h
  refine ⟨ps, ?_, h2.mono fun p c z => ?_⟩
  · rw [upd_ne cr]; exact h1
  · unfold ColAt at z ⊢
    rw [upd_ne]; exact z
    intro e; rw [e, hr] at z; cases z
theorem TabAt.same {CT : Addr} {H0 H H' : Hp} {t r : Addr} {m : Tb.MTable} (h : TabAt CT H0 H t r m) (s : Same H H') : TabAt CT H0 H' t r m := by
  obtain ⟨d, c, rs, h1, h2, h3, h4, h5, h6⟩ := h.ex
  exact ⟨d, c, rs, s _ _ h1, h2, h3.same s, s _ _ h4, h5.mono fun _ _ z => ⟨z.1.same s, z.2⟩, h6⟩
section
variable {P : Program} {w : World} {K : PySem.W.Frag} {mg : Str → Option Value} {base : Heap} {CL CT CF : Addr} {mL mF : Str → Option Value}
noncomputable def spLine (K : PySem.W.Frag) (CL CT : Addr) : Sp := fun vs H Q E => ∃ (t r a : Addr) (k : Nat) (b : WrTabs.Bytes) (m : Tb.MTable) (H0 : Hp), vs = [.ref t, .int (k : Int), .ref a] ∧ SqL K H a (bs b) ∧ b.length ≤ 66000 ∧ TabAt CT H0 H t r m ∧ (∀ b, H b = none → H0 b = none) ∧ m.rows.length ≤ 70000 ∧
  ∀ H', Keep H H' t r → Ans (Tb.lineStep m k b) (fun m' => TabAt CT H0 H' t r m' → Q .non H') (E (.ref CL) none H')
theorem scLine : FnScope ["table", "number", "line"] ["table", "number", "line"] (defScope sLine) := ⟨rfl, rfl, rfl, by decide +kernel, rfl, by decide +kernel, by decide +kernel⟩
theorem ok_line {f : Addr} {fd : FuncData} (F : Fun K "read_line" "read_line" sLine f fd) (T : Txt mg) (L : Lnr K mg CL mL) (TC : TabC K mg CT) (GC : Fn P w K mg base "read_columns" 6 ["line"] (spCols K CL)) (GR : Fn P w K mg base "read_row" 6 ["line", "columns"] (spRow K CL)) :
    FnOk P w K mg base (CXE P w) 7 f fd ["table", "number", "line"] (spLine K CL CT) := by
  refine F.okE scLine (fun vs H Q E h => ?_) (fun cdv A outer s H vs Q E hr h => ?_)
  · obtain ⟨t, r, a, k, b, m, H0, rfl, _⟩ := h
    rfl
  · obtain ⟨t, r, a, k, b, m, H0, rfl, sq, le, ta, dom, rl, kk⟩ := h
    refine ⟨_, pss_one (ps_if (pt_cmpR op_eq (pv 1) pe_int (nomark _)) (pss_one (ps_fld (pv 0) (pcall GC hr (passE (E := E) fun _ _ _ z => z) (pa_cons (pv 2) pa_nil)) rfl))
      (pss_one (ps_if (pt_cmpR op_gt (pv 1) (pgi T.mostRows) (nomark _)) (pss_one (ps_raise0 L.cls L.ni throws_cx rfl rfl rfl L.mg))
        (pss_one (ps_expr (pe_bm PySem.F.plainAttrs_list PySem.F.slot_list_append PySem.F.type_list_append mt_append (pe_fld (pv 0) rfl)
          (pa_cons (pcall GR hr (passE (E := E) fun _ _ _ z => z) (pa_cons (pv 2) (pa_cons (pe_fld (pv 0) rfl) pa_nil))) pa_nil))))))), ?_⟩
    obtain ⟨d, c, rs, h1, h2, h3, h4, h5, h6, h7, h8⟩ := ta.ex
    refine ⟨_, rfl, rfl, _, rfl, ?_⟩
    rw [decI]
    refine iteD (fun k0 => ?_) (fun k0 => ?_)
    · have ek : Tb.lineStep m k b = (Tb.readColumns b).map fun c => { m with cols := c } := by unfold Tb.lineStep; rw [if_pos (by omega)]
      refine ⟨_, rfl, a, b, rfl, sq, le, fun l H1 s1 => ⟨fun cols hc nl ca => ?_, fun hc => ?_⟩⟩
      · refine ⟨_, rfl, t, CT, d, _, rfl, s1 _ _ h1, TC.cls, TC.nc, (by show (2 : Nat) < 1000; decide), ?_⟩
        have lr : l ≠ r := fun e => by rw [e, h4] at nl; cases nl
        have rt : r ≠ t := fun e => by rw [e, h1] at h4; cases h4
        refine (kk _ (Keep.of s1).updT).1 { m with cols := cols } (by rw [ek, hc]; rfl) ⟨d, l, rs, upd_same, lr, ca.updI (s1 _ _ h1), ?_, h5.mono fun v ms z => ⟨(z.1.same s1).upd (s1 _ _ h1) (fun _ q => nomatch q) (fun e => by
          obtain ⟨D, vs, e2, q, _⟩ := z.1
          rw [e] at e2; cases e2; rw [h1] at q; cases q), z.2⟩, dom _ nl, h7, h8⟩
        rw [upd_ne rt]; exact s1 _ _ h4
      · exact (kk H1 (Keep.of s1)).2 (by rw [ek, hc]; rfl)
    · refine ⟨_, rfl, _, _, rfl, rfl, _, rfl, iteD (fun k1 => ?_) (fun k1 => ?_)⟩
      · refine (kk H (Keep.of (Same.refl H))).2 ?_
        unfold Tb.lineStep
        rw [if_neg (by omega), if_pos (by omega)]
      · have ek : Tb.lineStep m k b = (Tb.readRow b m.cols).map fun r => { m with rows := m.rows ++ [r] } := by unfold Tb.lineStep; rw [if_neg (by omega), if_neg (by omega)]
        refine ⟨_, rfl, t, CT, d, _, .ref r, rfl, h1, TC.cls, TC.nr, rfl, Or.inl ⟨rfl, _, sq_lst h4⟩, ?_⟩
        refine ⟨_, rfl, _, rfl, t, CT, d, _, .ref c, rfl, h1, TC.cls, TC.nc, rfl, a, c, b, m.cols, rfl, sq, le, h3, fun v H1 s1 => ⟨fun ms hm hrw hfr => ?_, fun hm => ?_⟩⟩
        · have rl2 := h5.len
          refine ⟨r, rs, v, rfl, rfl, s1 _ _ h4, by unfold sizeLine; omega, ?_⟩
          have tr : t ≠ r := fun e => by rw [e, h4] at h1; cases h1
          refine (kk _ (Keep.of s1).updR).1 { m with rows := m.rows ++ [ms] } (by rw [ek, hm]; rfl) ⟨d, c, rs ++ [v], ?_, h2, (h3.same s1).updL h2 (s1 _ _ h4), upd_same, ?_, h6, h7, fun D hD => ?_⟩
          · rw [upd_ne tr]; exact s1 _ _ h1
          · have vr : v ≠ .ref r := fun e => by have := hfr r e; rw [h4] at this; cases this
            exact (h5.mono fun _ _ z => ⟨(z.1.same s1).upd (s1 _ _ h4) (fun _ q => nomatch q) z.2, z.2⟩).snoc ⟨hrw.upd (s1 _ _ h4) (fun _ q => nomatch q) vr, vr⟩
          · rcases List.mem_append.mp hD with z | z
            · exact h8 D z
            · exact dom _ (hfr D (List.mem_singleton.mp z).symm)
        · exact (kk H1 (Keep.of s1)).2 (by rw [ek, hm]; rfl)
structure Flt (K : PySem.W.Frag) (mg : Str → Option Value) (CF : Addr) (mF : Str → Option Value) : Prop where
  cls : XCls K CF mF
  ini : XInit K mF "line"
  mg : mg "TableFault" = some (.ref CF)
  ga : mF "__getattribute__" = none
  gt : mF "__getattr__" = none
noncomputable def spTable (K : PySem.W.Frag) (CT CF : Addr) : Sp := fun vs H Q E => ∃ (a : Addr) (b : WrTabs.Bytes), vs = [.ref a] ∧ SqL K H a (bs b) ∧ b.length ≤ 66000 ∧
  (∀ k, Tb.readTable b = .error k → ∀ dx H', Same H H' → H' dx = some (.xd [("line", .int (k : Int))]) → E (.ref CF) (some dx) H') ∧
  (∀ m, Tb.readTable b = .ok m → ∀ t r H', Same H H' → TabAt CT H H' t r m → Q (.ref t) H')
theorem lines_step {m : Tb.MTable} {i : Nat} {ps : List WrTabs.Bytes} {p : WrTabs.Bytes} (h : ps[i]? = some p) : Tb.linesIn m i (ps.drop i) = match Tb.lineStep m i p with | none => .error i | some m' => Tb.linesIn m' (i + 1) (ps.drop (i + 1)) := by
  have il := get_le h
  have e : ps.drop i = p :: ps.drop (i + 1) := by
    rw [List.drop_eq_getElem_cons il]
    congr 1
    rw [List.getElem?_eq_getElem il] at h
    exact Option.some.inj h
  rw [e]
  rfl
theorem All2.memL {α β : Type} {R : α → β → Prop} {l : List α} {m : List β} (h : All2 R l m) : All2 (fun a b => a ∈ l ∧ R a b) l m := by
  induction h with
  | nil => exact .nil
  | cons r _ ih => exact .cons ⟨List.mem_cons_self, r⟩ (ih.mono fun a b z => ⟨List.mem_cons_of_mem _ z.1, z.2⟩)
theorem table_of {b : WrTabs.Bytes} {qs : List WrTabs.Bytes} {zb : WrTabs.Bytes} (hz : Tb.cutAt 10 b = qs ++ [zb]) : Tb.readTable b = match Tb.linesIn ⟨[], []⟩ 0 qs with
    | .error k => .error k
    | .ok t => if qs = [] ∨ zb ≠ [] then .error qs.length else .ok t := by
  unfold Tb.readTable
  rw [hz, List.dropLast_concat, List.getLast?_concat]
  cases Tb.linesIn ⟨[], []⟩ 0 qs with
  | error k => rfl
  | ok t =>
    show (if qs = [] ∨ some zb ≠ some [] then _ else _) = (if qs = [] ∨ zb ≠ [] then _ else _)
    by_cases h : qs = [] ∨ zb ≠ []
    · rw [if_pos h, if_pos (h.imp id fun q e => q (Option.some.inj e))]
    · rw [if_neg h, if_neg fun q => h (q.imp id fun q e => q (by rw [e]))]
theorem scTable : FnScope ["text", "lines", "behind", "table", "number", "line"] ["text"] (defScope sTable) := ⟨rfl, rfl, rfl, by decide +kernel, rfl, by decide +kernel, by decide +kernel⟩
theorem rows_step {m m' : Tb.MTable} {k : Nat} {b : WrTabs.Bytes} (h : Tb.lineStep m k b = some m') : m'.rows.length ≤ m.rows.length + 1 := by
  unfold Tb.lineStep at h
  by_cases h0 : k = 0
  · rw [if_pos h0] at h
    cases hc : Tb.readColumns b with
    | none => (rw [hc] at h; cases h)
    | some c => rw [hc] at h; cases h; exact Nat.le_succ _
  · rw [if_neg h0] at h
    by_cases h1 : 400 < k
    · rw [if_pos h1] at h; cases h
    · rw [if_neg h1] at h
      cases hc : Tb.readRow b m.cols with
      | none => (rw [hc] at h; cases h)
      | some c => rw [hc] at h; cases h; rw [List.length_append]; exact Nat.le_refl _
theorem ok_table {f fI : Addr} {fd fdI : FuncData} (F : Fun K "read_table" "read_table" sTable f fd) (T : Txt mg) (L : Lnr K mg CL mL) (FF : Flt K mg CF mF) (TC : TabC K mg CT) (mT : mg "Table" = some (.ref CT)) (M : Mk K CT fI) (bI : Binds K fdI ["self", "columns", "rows"] [])
    (OI : FnOk P w K mg base (CXE P w) 1 fI fdI ["self", "columns", "rows"] (spTab CT)) (GC : Fn P w K mg base "cut_at" 1 ["row", "mark"] (spCut K)) (GL : Fn P w K mg base "read_line" 7 ["table", "number", "line"] (spLine K CL CT)) :
    FnOk P w K mg base (CXE P w) 8 f fd ["text"] (spTable K CT CF) := by
  refine F.okE scTable (fun vs H Q E h => ?_) (fun cdv A outer s H vs Q E hr h => ?_)
  · obtain ⟨a, b, rfl, _⟩ := h
    rfl
  · obtain ⟨a, b, rfl, sq, le, kE, kQ⟩ := h
    have nd : (["text", "lines", "behind", "table", "number", "line"] : List Str).Nodup := by decide +kernel
    have dp := hr.dp
    have d1 : (A.deeper (envOfC "read_table" (defScope sTable) s.heap.objs.size f cdv)).depth + 1 < recursionLimit := by omega
    refine ⟨_, pss_cons (ps_set (i := 1) nd rfl (Or.inl rfl) (pcall GC (hr.mono (by decide)) (passE (E := E) fun _ _ _ z => z) (pa_cons (pv 0) (pa_cons (pgi T.lineEnd) pa_nil))))
      (pss_cons (ps_set (i := 2) nd rfl (Or.inl rfl) (pe_bm0 PySem.F.plainAttrs_list PySem.F.slot_list_pop PySem.F.type_list_pop mt_pop (pv 1)))
      (pss_cons (ps_set (i := 3) nd rfl (Or.inl rfl) (pe_make M OI (hr.mono (by decide)) rfl mT bI .nil (passE (E := E) fun _ _ _ z => z) (pa_cons (pe_lst pa_nil) (pa_cons (pe_lst pa_nil) pa_nil))))
      (pss_cons (ps_for PassesOwn.leaving rfl (pi_enum rfl T.enumerate (pa_cons (pv 1) pa_nil)) (pg_tup rfl (pgs_cons (pg_name (i := 4) nd rfl (Or.inl rfl)) (pgs_cons (pg_name (i := 5) nd rfl (Or.inl rfl)) pgs_nil)))
        (pss_one (ps_try (tb := fun ES => tDrop (tCallS (spLine K CL CT) ES (tCons (tVar 3) (tCons (tVar 4) (tCons (tVar 5) tNil))))) rfl rfl (fun p0 ES => by exact pss_one (ps_expr (pcallT GL hr (pa_cons (pv 3) (pa_cons (pv 4) (pa_cons (pv 5) pa_nil)))))) (ph_own (th := tThrow1 CF "line" E (tCons (tVar 4) tNil)) L.cls rfl L.mg rfl rfl
          (fun a oe Ct => pss_one (ps_raise1 FF.cls FF.ini (throws_hnd throws_cx (fun _ => hr.hd) PassesOwnAt.leaving) rfl d1
            (.inr (by obtain ⟨vs, v1, v2⟩ := Ct.recd; exact ⟨a, oe, vs, .none, rfl, List.mem_cons_self, v1, v2 rfl, .nil⟩)) rfl FF.mg (pa_cons (pv 4) pa_nil))) ph_nil))))
      (pss_cons (ps_if (PW.pt (pw_or (pt_cmpR op_eq (plen_seq T.len (pv 1)) pe_int (nomark _)) (pw_or1 (pt_cmpR op_gt (plen_seq T.len (pv 2)) pe_int (nomark _)))))
        (pss_one (ps_raise1 FF.cls FF.ini throws_cx rfl d1 (.inl hr.hd) rfl FF.mg (pa_cons (plen_seq T.len (pv 1)) pa_nil))) pss_nil)
      (pss_one (ps_ret (pv 3))))))), ?_⟩
    refine ⟨_, rfl, a, b, 10, rfl, sq, le, fun l as H1 nl s1 pc na => ?_⟩
    have al := pc.2.len
    have pne := Tb.cutAt_ne 10 b
    obtain ⟨qs, zb, hz⟩ : ∃ qs zb, Tb.cutAt 10 b = qs ++ [zb] := ⟨_, _, (List.dropLast_concat_getLast pne).symm⟩
    obtain ⟨as', z, rfl⟩ : ∃ as' z, as = as' ++ [z] := by
      have ane : as ≠ [] := fun e => by
        rw [e] at al
        exact pne (List.length_eq_zero_iff.mp al.symm)
      exact ⟨_, _, (List.dropLast_concat_getLast ane).symm⟩
    obtain ⟨pc1, pc2⟩ := pc
    rw [hz] at pc2 al
    rw [List.length_append, List.length_append, List.length_singleton, List.length_singleton] at al
    have pcL := pc2.last
    rw [List.dropLast_concat, List.dropLast_concat] at pcL
    have zAt : H1 z = some (.lst (bs zb)) := by
      obtain ⟨y, hy, hh⟩ := pc2.get (i := as'.length) (a := z) (by simp)
      have : (qs ++ [zb])[as'.length]? = some zb := by
        rw [show as'.length = qs.length by omega]; simp
      rw [this] at hy
      cases hy
      exact hh
    have zl : z ≠ l := fun e => na (by rw [e]; simp)
    have asl : ∀ x ∈ as', x ≠ l := fun x hx e => na (by rw [← e]; exact List.mem_append_left _ hx)
    refine ⟨_, rfl, Or.inl ⟨rfl, _, sq_lst pc1⟩, l, _, .ref z, rfl, rfl, pc1, ?_, ?_⟩
    · rw [refs_snoc, List.length_append, List.length_singleton, Nat.add_sub_cancel]; simp
    rw [refs_snoc, List.dropLast_concat]
    refine ⟨Nat.zero_le _, fun c hc => ⟨Nat.zero_le _, fun r hr' => ?_⟩⟩
    intro x dx hx hdx xd
    refine ⟨x, c, r, dx, rfl, upd_same, rfl, ?_⟩
    rw [upd_upd]
    have hl2 : (upd H1 l (.lst (refs as'))) l = some (.lst (refs as')) := upd_same
    have sH2 : Same H (upd H1 l (.lst (refs as'))) := s1.upd nl
    have zl2 : (upd H1 l (.lst (refs as'))) z = some (.lst (bs zb)) := by rw [upd_ne zl]; exact zAt
    have pc2' : All2 (fun a p => (upd H1 l (.lst (refs as'))) a = some (.lst (bs p))) as' qs := pcL.memL.mono fun a p q => by rw [upd_ne (asl a q.1)]; exact q.2
    generalize upd H1 l (.lst (refs as')) = H2 at hc hr' hx hdx hl2 sH2 zl2 pc2' ⊢
    have rc : r ≠ c := fun e => by rw [e, upd_same] at hr'; cases hr'
    rw [upd_ne rc] at hr'
    have xr : x ≠ r := fun e => by rw [e, upd_same] at hx; cases hx
    rw [upd_ne xr] at hx
    have xc : x ≠ c := fun e => by rw [e, upd_same] at hx; cases hx
    rw [upd_ne xc] at hx
    have dr : dx ≠ r := fun e => by rw [e, upd_same] at hdx; cases hdx
    rw [upd_ne dr] at hdx
    have dc : dx ≠ c := fun e => by rw [e, upd_same] at hdx; cases hdx
    rw [upd_ne dc] at hdx
    have s23 : Same H2 (upd (upd (upd (upd H2 c (.lst [])) r (.lst [])) dx (.own x)) x (.ins CT dx [("columns", .ref c), ("rows", .ref r)])) := (((Same.new hc).upd hr').upd hdx).upd hx
    have fc : H c = none := sH2.free hc
    have fr : H r = none := sH2.free hr'
    have tb0 : TabAt CT H (upd (upd (upd (upd H2 c (.lst [])) r (.lst [])) dx (.own x)) x (.ins CT dx [("columns", .ref c), ("rows", .ref r)])) x r ⟨[], []⟩ :=
      ⟨dx, c, [], upd_same, rc.symm, ⟨[], by rw [upd_ne xc.symm, upd_ne dc.symm, upd_ne rc.symm]; exact upd_same, .nil⟩, by rw [upd_ne xr.symm, upd_ne dr.symm]; exact upd_same, .nil, fc, fr, fun D hD => nomatch hD⟩
    generalize upd (upd (upd (upd H2 c (.lst [])) r (.lst [])) dx (.own x)) x (.ins CT dx [("columns", .ref c), ("rows", .ref r)]) = H3 at s23 tb0 ⊢
    have nx : ∀ {y : Addr} {o : HO}, H2 y = some o → y ≠ x ∧ y ≠ r := fun q => ⟨ne_of_none q hx, ne_of_none q hr'⟩
    have bk : ∀ {H' : Hp}, Keep H3 H' x r → Same H H' := fun kp y o q => kp y o (s23 _ _ (sH2 _ _ q)) (nx (sH2 _ _ q)).1 (nx (sH2 _ _ q)).2
    have at2 : ∀ {H' : Hp} {y : Addr} {o : HO}, Keep H3 H' x r → H2 y = some o → H' y = some o := fun kp q => kp _ _ (s23 _ _ q) (nx q).1 (nx q).2
    have et := table_of hz
    have ql : qs.length ≤ 66000 := by
      have := (cut_bound 10 b).1
      have e2 : (Tb.cutAt 10 b).length = qs.length + 1 := by rw [hz, List.length_append, List.length_singleton]
      unfold Tb.cutAt at e2
      rw [List.length_append, List.length_singleton] at e2
      omega
    refine ⟨_, rfl, l, refs as', rfl, sq_lst (s23 _ _ hl2), for_enum (xs := refs as') (fun i σ H' => ∃ m o1 o2, σ = [some (.ref a), some (.ref l), some (.ref z), some (.ref x), o1, o2] ∧ Keep H3 H' x r ∧ TabAt CT H H' x r m ∧ m.rows.length ≤ i ∧ Tb.linesIn ⟨[], []⟩ 0 qs = Tb.linesIn m i (qs.drop i))
      ⟨⟨[], []⟩, none, none, rfl, Keep.of (Same.refl _), tb0, Nat.le_refl _, rfl⟩ ?_ ?_ ?_⟩
    · rintro i σ H' _ ⟨m, o1, o2, rfl, kp, _⟩
      exact sq_lst (at2 kp hl2)
    · rintro i y TT σ H' hy ⟨m, o1, o2, rfl, kp, tb, rl, li⟩ hT
      obtain ⟨ai, hai, rfl⟩ := refs_get hy
      obtain ⟨pi, hpi, hp⟩ := pc2'.get hai
      have il := get_le hpi
      have pm : pi ∈ Tb.cutAt 10 b := by rw [hz]; exact List.mem_append_left _ (List.mem_of_getElem? hpi)
      have kp2 : Keep H3 (upd H' TT (.tup [.int (i : Nat), .ref ai])) x r := kp.trans (Keep.of (Same.new hT))
      have ls := lines_step (m := m) hpi
      refine ⟨TT, _, rfl, SqT.of upd_same, rfl, _, _, rfl, _, _, rfl, rfl, ?_⟩
      refine ⟨_, rfl, _, rfl, _, rfl, x, r, ai, i, pi, m, H, rfl, sq_lst (at2 kp2 hp), Nat.le_trans (cut_le pm) le, tb.same (Same.new hT), fun b q => (bk kp2).free q, by omega, fun H'' kp3 => ⟨fun m' hm' tb' => ?_, fun hm' => .inl ⟨rfl, rfl, ?_⟩⟩⟩
      · refine ⟨m', _, _, rfl, kp2.trans kp3, tb', ?_, ?_⟩
        · have := rows_step hm'
          omega
        · rw [li, ls, hm']
      · refine ⟨_, rfl, _, rfl, fun dx' hdx' => kE i ?_ dx' _ ((bk (kp2.trans kp3)).upd ((bk (kp2.trans kp3)).free hdx')) upd_same⟩
        rw [et, li, ls, hm']
    · rintro σ H' ⟨m, o1, o2, rfl, kp, tb, rl, li⟩
      have lq : as'.length = qs.length := by omega
      rw [refs_length, lq, List.drop_length] at li
      have li2 : Tb.linesIn ⟨[], []⟩ 0 qs = .ok m := li
      rw [li2] at et
      have et2 : Tb.readTable b = if qs = [] ∨ zb ≠ [] then .error qs.length else .ok m := et
      have rs : (qs = [] ∨ zb ≠ []) → tThrow1 CF "line" E (tCons (tCB (fun xs H Q => ∃ p ys, xs = [V.ref p] ∧ (SqL K H p ys ∨ SqT K H p ys) ∧ Q (.int ys.length) H) (tCons (tVar 1) tNil)) tNil) { nx := fun _ H' => Q .non H', rt := Q }
          [some (.ref a), some (.ref l), some (.ref z), some (.ref x), o1, o2] H' := by
        intro hb
        rw [if_pos hb] at et2
        refine ⟨_, rfl, l, _, rfl, .inl (sq_lst (at2 kp hl2)), _, rfl, fun dx' hdx' => ?_⟩
        rw [refs_length, lq]
        exact kE _ et2 dx' _ ((bk kp).upd ((bk kp).free hdx')) upd_same
      refine ⟨_, rfl, l, _, rfl, .inl (sq_lst (at2 kp hl2)), rfl, _, rfl, ?_⟩
      rw [decI, refs_length]
      by_cases h0 : qs = []
      · rw [decide_eq_true (by rw [lq, h0]; rfl)]
        exact iteT (iteT (rs (.inl h0)))
      · rw [decide_eq_false (fun q => h0 (List.length_eq_zero_iff.mp (by omega)))]
        refine iteF ⟨_, rfl, z, _, rfl, .inl (sq_lst (at2 kp zl2)), _, _, rfl, rfl, _, rfl, ?_⟩
        rw [bs_length]
        by_cases h1 : zb = []
        · rw [decide_eq_false (by rw [h1]; simp)]
          rw [if_neg (by rintro (q | q); exact h0 q; exact q h1)] at et2
          exact iteF ⟨_, rfl, kQ m et2 x r H' (bk kp) tb⟩
        · rw [decide_eq_true (by have := List.length_pos_iff.mpr h1; omega)]
          exact iteT (rs (.inr h1))
structure Ex0 (K : PySem.W.Frag) (mg : Str → Option Value) (x : Str) (C : Addr) (m : Str → Option Value) : Prop where
  cls : XCls K C m
  ni : m "__init__" = none
  mg : mg x = some (.ref C)
noncomputable def spChk (K : PySem.W.Frag) (CG : Addr) : Sp := fun vs H Q E => ∃ (a : Addr) (xs : List V), vs = [.ref a] ∧ SqL K H a xs ∧ (65536 < xs.length → E (.ref CG) none H) ∧ (xs.length ≤ 65536 → Q .non H)
theorem scChk : FnScope ["text"] ["text"] (defScope sChk) := ⟨rfl, rfl, rfl, by decide +kernel, rfl, by decide +kernel, by decide +kernel⟩
theorem ok_chk {f : Addr} {fd : FuncData} {CG : Addr} {mG : Str → Option Value} (F : Fun K "check_length" "check_length" sChk f fd) (T : Txt mg) (G : Ex0 K mg "TooLong" CG mG) : FnOk P w K mg base (CXE P w) 1 f fd ["text"] (spChk K CG) := by
  refine F.okE scChk (fun vs H Q E h => ?_) (fun cdv A outer s H vs Q E hr h => ?_)
  · obtain ⟨a, xs, rfl, _⟩ := h
    rfl
  · obtain ⟨a, xs, rfl, sq, k1, k2⟩ := h
    refine ⟨_, pss_one (ps_if (pt_cmpR op_gt (plen_seq T.len (pv 0)) (pgi T.mostBytes) (nomark _)) (pss_one (ps_raise0 G.cls G.ni throws_cx rfl rfl rfl G.mg)) pss_nil), ?_⟩
    refine ⟨_, rfl, a, _, rfl, .inl sq, _, _, rfl, rfl, _, rfl, ?_⟩
    exact iteD (fun h0 => k1 (by omega)) (fun h0 => k2 (by omega))
end
end TbP

namespace TbP
open PySem PySem.Spec PyProof.Rows L2
section
variable {P : Program} {w : World} {K : PySem.W.Frag} {mg : Str → Option Value} {base : Heap} {CL CT CF : Addr} {mL mF : Str → Option Value}
noncomputable def spRead (K : PySem.W.Frag) : Sp := fun vs H Q E => ∃ (a : Addr) (b : WrTabs.Bytes), vs = [.ref a] ∧ SqL K H a (bs b) ∧ ∀ l H', Same H H' → H' l = some (.lst ((Tb.readAns b).map V.int)) → Q (.ref l) H'
theorem scRead : FnScope ["text", "table", "fault"] ["text"] (defScope sRead) := ⟨rfl, rfl, rfl, by decide +kernel, rfl, by decide +kernel, by decide +kernel⟩
theorem ok_read {f : Addr} {fd : FuncData} {CG : Addr} {mG : Str → Option Value} (F : Fun K "read" "read" sRead f fd) (T : Txt mg) (FF : Flt K mg CF mF) (G : Ex0 K mg "TooLong" CG mG) (FG : CF ≠ CG) (TC : TabC K mg CT) (GK : Fn P w K mg base "check_length" 1 ["text"] (spChk K CG)) (GT : Fn P w K mg base "read_table" 8 ["text"] (spTable K CT CF)) :
    FnOk P w K mg base (CXE P w) 9 f fd ["text"] (spRead K) := by
  refine F.okE scRead (fun vs H Q E h => ?_) (fun cdv A outer s H vs Q E hr h => ?_)
  · obtain ⟨a, b, rfl, _⟩ := h
    rfl
  · obtain ⟨a, b, rfl, sq, k⟩ := h
    have nd : (["text", "table", "fault"] : List Str).Nodup := by decide +kernel
    refine ⟨_, pss_cons (ps_try rfl rfl (fun p0 ES => pss_cons (ps_expr (pcallT GK (hr.mono (by decide)) (pa_cons (pv 0) pa_nil))) (pss_one (ps_set (i := 1) nd rfl (Or.inl rfl) (pcallT GT hr (pa_cons (pv 0) pa_nil)))))
        (ph_own (th := tRet (tLst (tCons (tC (.int 9)) (tCons (tC (.int 1)) tNil)))) G.cls rfl G.mg rfl rfl (fun a oe _ => pss_one (ps_ret (pe_lst (pa_cons (pgi T.refused) (pa_cons (pgi T.tooLong) pa_nil)))))
          (ph_as (i := 2) (th := fun a dx => tRet (tLst (tCons (tC (.int 9)) (tCons (tC (.int 2)) (tCons (tXf (tVar 2) a dx "line") tNil))))) FF.cls rfl FF.mg rfl rfl nd rfl rfl
            (fun a oe dx Ct => pss_one (ps_ret (pe_lst (pa_cons (pgi T.refused) (pa_cons (pgi T.noTable) (pa_cons (pe_xfld FF.cls FF.ini.na FF.ga FF.gt FF.ini.lk List.mem_cons_self Ct (pv 2) rfl) pa_nil)))))) ph_nil)))
      (pss_one (ps_ret (pe_lst (pa_cons (pgi T.answered) (pa_cons (plen_seq T.len (pe_fld (pv 1) rfl)) pa_nil))))), ?_⟩
    refine ⟨_, rfl, a, _, rfl, sq, fun h0 => .inl ⟨rfl, rfl, ?_⟩, fun h0 => ?_⟩
    · rw [bs_length] at h0
      refine ⟨(by show (2 : Nat) ≤ _; decide), fun p hp => k p _ (Same.new hp) ?_⟩
      unfold Tb.readAns
      rw [upd_same, if_pos (by omega)]
      rfl
    · rw [bs_length] at h0
      have ek : Tb.readAns b = match Tb.readTable b with | .error k => [9, 2, (k : Int)] | .ok t => [0, (t.rows.length : Int)] := by
        unfold Tb.readAns
        rw [if_neg (by omega)]
        all_goals (cases Tb.readTable b <;> rfl)
      refine ⟨_, rfl, a, b, rfl, sq, by omega, fun n hn dx H' s' hx => .inr ⟨CF, mF, rfl, FG, FF.cls, .inl ⟨dx, rfl, rfl, fun e => ?_⟩⟩, fun m hm t r H' s' tb => ?_⟩
      · refine ⟨_, rfl, _, _, rfl, hx, rfl, (by show (3 : Nat) ≤ _; decide), fun p hp => k p _ (s'.upd (s'.free hp)) ?_⟩
        rw [upd_same, ek, hn]
        rfl
      · obtain ⟨d, c, rs, h1, h2, h3, h4, h5, _⟩ := tb.ex
        refine ⟨_, rfl, t, CT, d, _, .ref r, rfl, h1, TC.cls, TC.nr, rfl, r, rs, rfl, .inl (sq_lst h4), (by show (2 : Nat) ≤ _; decide), fun p hp => k p _ (s'.upd (s'.free hp)) ?_⟩
        rw [upd_same, ek, hm, h5.len]
        rfl
end
end TbP

namespace TbP
open PySem PySem.Spec PyProof.Rows L2
theorem len1 {α : Type} {Pr : List α → Prop} (k : ∀ a, Pr [a]) : ∀ us : List α, us.length = 1 → Pr us := fun us h => by
  cases us with
  | nil => cases h
  | cons a us => cases us with
    | nil => exact k a
    | cons b us => cases h
theorem len2 {α : Type} {Pr : List α → Prop} (k : ∀ a b, Pr [a, b]) : ∀ us : List α, us.length = 2 → Pr us := fun us h => by
  cases us with
  | nil => cases h
  | cons a us => exact len1 (Pr := fun l => Pr (a :: l)) (k a) us (Nat.succ.inj h)
theorem len3 {α : Type} {Pr : List α → Prop} (k : ∀ a b c, Pr [a, b, c]) : ∀ us : List α, us.length = 3 → Pr us := fun us h => by
  cases us with
  | nil => cases h
  | cons a us => exact len2 (Pr := fun l => Pr (a :: l)) (k a) us (Nat.succ.inj h)
structure FnF (K : PySem.W.Frag) (x : Str) (st : Stmt) : Prop where
  ex : ∃ (f : Addr) (fd : FuncData), PySem.W.nsIn K mainGlobals x = some (some (.ref f)) ∧ Fun K x x st f fd ∧ PySem.W.keepIn K (.ref f) = true
theorem fnF_mk {K : PySem.W.Frag} {x : Str} {st : Stmt} {f : Addr} {oc : Value} {od an : Option Addr} {osl : Array (Option Value)} {kV doc pm cdv ct : Value} (a : PySem.W.nsIn K mainGlobals x = some (some (.ref f)))
    (l : K.lookup f = some ⟨oc, od, .func (PySem.W.fnOf x x (defArgs st) (defBody st) (defScope st) .none kV doc pm an cdv ct), osl⟩) (c : PySem.W.codeIn K cdv x = true) (k : PySem.W.keepIn K (.ref f) = true) : FnF K x st :=
  ⟨f, _, a, fun_mk l c k, k⟩
theorem fn_mk {P : Program} {w : World} {K : PySem.W.Frag} {mg : Str → Option Value} {base h : Heap} {x : Str} {st : Stmt} {k : Nat} {ps : List Str} {sp : Sp} (X : K.In h) (G : h.Ns mainGlobals mg) (F : FnF K x st)
    (hb : ∀ (kV doc pm : Value) (an : Option Addr) (cdv ct : Value) (us : List Value), us.length = ps.length → bindArgs (PySem.W.fnOf x x (defArgs st) (defBody st) (defScope st) .none kV doc pm an cdv ct) ⟨us, []⟩ = pure (ps.zip us))
    (ok : ∀ f fd, Fun K x x st f fd → FnOk P w K mg base (CXE P w) k f fd ps sp) : Fn P w K mg base x k ps sp := by
  obtain ⟨f, fd, a, F, kp⟩ := F.ex
  exact ⟨f, fd, PySem.W.mg_of X G a, kp, F.binds hb, ok f fd F⟩
noncomputable def IntK (K : PySem.W.Frag) (x : Str) (n : Int) : Prop := ∃ t, PySem.W.nsIn K mainGlobals x = some (some (.int n t))
noncomputable def StrK (K : PySem.W.Frag) (x y : Str) : Prop := ∃ z t, PySem.W.nsIn K mainGlobals x = some (some (.str z t)) ∧ z = y
structure TxtK (K : PySem.W.Frag) : Prop where
  lineEnd : IntK K "LINE_END" 10
  quote : IntK K "QUOTE" 34
  comma : IntK K "COMMA" 44
  minus : IntK K "MINUS" 45
  slash : IntK K "SLASH" 47
  d0 : IntK K "DIGIT_0" 48
  d9 : IntK K "DIGIT_9" 57
  colon : IntK K "COLON" 58
  back : IntK K "BACKSLASH" 92
  under : IntK K "UNDERLINE" 95
  la : IntK K "LETTER_A" 97
  ln : IntK K "LETTER_N" 110
  lz : IntK K "LETTER_Z" 122
  digits : StrK K "DIGITS" "0123456789"
  letters : StrK K "LETTERS" "abcdefghijklmnopqrstuvwxyz"
  mostDigits : IntK K "MOST_DIGITS" 400
  longText : IntK K "LONGEST_TEXT" 1000
  leastPlain : IntK K "LEAST_PLAIN" 32
  mostPlain : IntK K "GREATEST_PLAIN" 126
  longName : IntK K "LONGEST_NAME" 31
  mostCols : IntK K "MOST_COLUMNS" 32
  mostRows : IntK K "MOST_ROWS" 400
  answered : IntK K "ANSWERED" 0
  refused : IntK K "REFUSED" 9
  tooLong : IntK K "TOO_LONG" 1
  noTable : IntK K "NO_TABLE" 2
  mostBytes : IntK K "MOST_BYTES" 65536
  len : PySem.W.nsIn K mainGlobals "len" = some none
  abs : PySem.W.nsIn K mainGlobals "abs" = some none
  tuple : PySem.W.nsIn K mainGlobals "tuple" = some none
  set : PySem.W.nsIn K mainGlobals "set" = some none
  enumerate : PySem.W.nsIn K mainGlobals "enumerate" = some none
  zip : PySem.W.nsIn K mainGlobals "zip" = some none
theorem IntK.mg {K : PySem.W.Frag} {h : Heap} {mg : Str → Option Value} {x : Str} {n : Int} (e : IntK K x n) (X : K.In h) (G : h.Ns mainGlobals mg) : ∃ t, mg x = some (.int n t) := let ⟨t, q⟩ := e; ⟨t, PySem.W.mg_of X G q⟩
theorem StrK.mg {K : PySem.W.Frag} {h : Heap} {mg : Str → Option Value} {x y : Str} (e : StrK K x y) (X : K.In h) (G : h.Ns mainGlobals mg) : ∃ t, mg x = some (.str y t) := by
  obtain ⟨z, t, q, rfl⟩ := e
  exact ⟨t, PySem.W.mg_of X G q⟩
theorem TxtK.mg {K : PySem.W.Frag} {h : Heap} {mg : Str → Option Value} (T : TxtK K) (X : K.In h) (G : h.Ns mainGlobals mg) : Txt mg :=
  ⟨T.lineEnd.mg X G, T.quote.mg X G, T.comma.mg X G, T.minus.mg X G, T.slash.mg X G, T.d0.mg X G, T.d9.mg X G, T.colon.mg X G, T.back.mg X G, T.under.mg X G, T.la.mg X G, T.ln.mg X G, T.lz.mg X G, T.digits.mg X G, T.letters.mg X G,
    T.mostDigits.mg X G, T.longText.mg X G, T.leastPlain.mg X G, T.mostPlain.mg X G, T.longName.mg X G, T.mostCols.mg X G, T.mostRows.mg X G, T.answered.mg X G, T.refused.mg X G, T.tooLong.mg X G, T.noTable.mg X G, T.mostBytes.mg X G,
    PySem.W.mg_none_of X G T.len, PySem.W.mg_none_of X G T.abs, PySem.W.mg_none_of X G T.tuple, PySem.W.mg_none_of X G T.set, PySem.W.mg_none_of X G T.enumerate, PySem.W.mg_none_of X G T.zip⟩
noncomputable def strV? : Value → Option Str
  | .str x _ => some x
  | _ => none
theorem vals_strs : ∀ {us : List Value} {ys : List Str}, us.map strV? = ys.map some → Vals (ys.map V.str) us
  | [], [], _ => .nil
  | [], _ :: _, h => nomatch h
  | _ :: _, [], h => nomatch h
  | u :: us, y :: ys, h => by
    rw [List.map_cons, List.map_cons] at h
    injection h with h1 h2
    refine .cons ?_ (vals_strs h2)
    cases u <;> first | (cases h1; exact ⟨_, rfl⟩) | cases h1
noncomputable def WdK (K : PySem.W.Frag) (x : Str) (ys : List Str) : Prop := ∃ t, PySem.W.nsIn K mainGlobals x = some (some (.ref t)) ∧ ∃ (d : Option Addr) (its : Array Value) (n : Nat) (sl : Array (Option Value)), K.lookup t = some ⟨.type "tuple", d, .seq its n, sl⟩ ∧ its.toList.map strV? = ys.map some
theorem wdK_mk {K : PySem.W.Frag} {x : Str} {ys : List Str} {t : Addr} {d : Option Addr} {its : Array Value} {n : Nat} {sl : Array (Option Value)} (a : PySem.W.nsIn K mainGlobals x = some (some (.ref t))) (l : K.lookup t = some ⟨.type "tuple", d, .seq its n, sl⟩) (e : its.toList.map strV? = ys.map some) : WdK K x ys :=
  ⟨t, a, d, its, n, sl, l, e⟩
theorem WdK.mg {K : PySem.W.Frag} {h : Heap} {mg : Str → Option Value} {x : Str} {ys : List Str} (e : WdK K x ys) (hl : ys.length ≤ 1000) (X : K.In h) (G : h.Ns mainGlobals mg) : ∃ t, mg x = some (.ref t) ∧ ∀ H, SqT K H t (ys.map V.str) := by
  obtain ⟨t, a, d, its, n, sl, l, e⟩ := e
  refine ⟨t, PySem.W.mg_of X G a, fun H => .inr ⟨_, its, n, l, rfl, rfl, ?_, vals_strs e⟩⟩
  have q := congrArg List.length e
  rw [List.length_map, List.length_map, Array.length_toList] at q
  rw [q]
  unfold sizeLine
  omega
noncomputable def strKeysB (es : Array DictEntry) : Bool := es.toList.all fun e => (strV? e.key).isSome
theorem strKeys_of {es : Array DictEntry} (h : strKeysB es = true) : StrKeys es := by
  intro e he
  have q := List.all_eq_true.mp h e (Array.mem_toList_iff.mpr he)
  cases hk : e.key <;> rw [hk] at q <;> first | exact ⟨_, _, rfl⟩ | exact nomatch q
theorem ns_find {K : PySem.W.Frag} {N : Addr} {c : Value} {d : Option Addr} {es : Array DictEntry} {ep : Nat} {sl : Array (Option Value)} {x : Str} {r : Option Value} (l : K.lookup N = some ⟨c, d, .dict es ep, sl⟩) (e : PySem.W.nsIn K N x = some r) : nsFind es x = r := by
  unfold PySem.W.nsIn at e
  rw [l] at e
  simp only at e
  unfold nsFind findBy
  rw [← Array.find?_toList]
  split at e
  · rename_i en he
    cases e
    rw [he]
    rfl
  · rename_i he
    split at e
    · cases e
    · cases e
      rw [he]
      rfl
theorem xcls_mk {K : PySem.W.Frag} {C N : Addr} {nm q : Str} {bs : List Value} {sn : List Str} {sub : List Value} {ab : Bool} {col : Option Bool} {dd : Option Addr} {k0 k1 k2 k3 k5 : Option Value} {c : Value} {d : Option Addr} {es : Array DictEntry} {ep : Nat} {sl : Array (Option Value)}
    (l : K.lookup C = some (excClassObj nm q C N bs excLine true sn sub ab col dd k0 k1 k2 k3 k5 "Exception.__new__")) (n : K.lookup N = some ⟨c, d, .dict es ep, sl⟩) (sk : strKeysB es = true) (kp : PySem.W.keepIn K (.ref C) = true) : XCls K C (nsFind es) :=
  ⟨⟨nm, q, N, bs, sn, sub, ab, col, dd, k0, k1, k2, k3, k5, l, fun h X => ⟨_, es, ep, X _ _ n, rfl, strKeys_of sk, fun _ => rfl⟩⟩, kp⟩
noncomputable def nmOf (o : Obj) : Option Str := match o.data with | .cls c => some c.name | _ => none
noncomputable def XNm (K : PySem.W.Frag) (C : Addr) (x : Str) : Prop := ∃ o, K.lookup C = some o ∧ nmOf o = some x
theorem XNm.ne {K : PySem.W.Frag} {C D : Addr} {x y : Str} (a : XNm K C x) (b : XNm K D y) (h : x ≠ y) : C ≠ D := by
  rintro rfl
  obtain ⟨o, e, q⟩ := a
  obtain ⟨o', e', q'⟩ := b
  rw [e] at e'; cases e'
  rw [q] at q'; cases q'
  exact h rfl
noncomputable def LnrK (K : PySem.W.Frag) (x : Str) : Prop := ∃ CL mL, PySem.W.nsIn K mainGlobals x = some (some (.ref CL)) ∧ XCls K CL mL ∧ mL "__init__" = none ∧ XNm K CL x
theorem lnrK_mk {K : PySem.W.Frag} {x : Str} {C N : Addr} {nm q : Str} {bs : List Value} {sn : List Str} {sub : List Value} {ab : Bool} {col : Option Bool} {dd : Option Addr} {k0 k1 k2 k3 k5 : Option Value} {c : Value} {d : Option Addr} {es : Array DictEntry} {ep : Nat} {sl : Array (Option Value)}
    (a : PySem.W.nsIn K mainGlobals x = some (some (.ref C))) (l : K.lookup C = some (excClassObj nm q C N bs excLine true sn sub ab col dd k0 k1 k2 k3 k5 "Exception.__new__")) (n : K.lookup N = some ⟨c, d, .dict es ep, sl⟩) (sk : strKeysB es = true) (kp : PySem.W.keepIn K (.ref C) = true)
    (i : PySem.W.nsIn K N "__init__" = some none) (en : nm = x) : LnrK K x := ⟨C, _, a, xcls_mk l n sk kp, ns_find n i, ⟨_, l, congrArg some en⟩⟩
noncomputable def FltK (K : PySem.W.Frag) : Prop := ∃ CF mF, PySem.W.nsIn K mainGlobals "TableFault" = some (some (.ref CF)) ∧ XCls K CF mF ∧ XInit K mF "line" ∧ mF "__getattribute__" = none ∧ mF "__getattr__" = none ∧ XNm K CF "TableFault"
theorem scFlt : FnScope ["self", "line"] ["self", "line"] (defScope sFltInit) := ⟨rfl, rfl, rfl, by decide +kernel, rfl, by decide +kernel, by decide +kernel⟩
theorem isFn_obj {K : PySem.W.Frag} {f : Addr} {oc : Value} {od : Option Addr} {fd : FuncData} {osl : Array (Option Value)} (l : K.lookup f = some ⟨oc, od, .func fd, osl⟩) (e : oc = .type "function") : ∀ h : Heap, K.In h → ∃ oI, h.get? f = some oI ∧ oI.cls = .type "function" := fun h X => ⟨_, X _ _ l, e⟩
theorem exc_line : typeLookup (.type "Exception") "line" = pure none := by kernel_rfl
theorem fltK_mk {K : PySem.W.Frag} {C N f : Addr} {nm q : Str} {bs : List Value} {sn : List Str} {sub : List Value} {ab : Bool} {col : Option Bool} {dd : Option Addr} {k0 k1 k2 k3 k5 : Option Value} {c : Value} {d : Option Addr} {es : Array DictEntry} {ep : Nat} {sl : Array (Option Value)}
    {oc : Value} {od an : Option Addr} {osl : Array (Option Value)} {kV doc pm cdv ct : Value}
    (a : PySem.W.nsIn K mainGlobals "TableFault" = some (some (.ref C))) (l : K.lookup C = some (excClassObj nm q C N bs excLine true sn sub ab col dd k0 k1 k2 k3 k5 "Exception.__new__")) (n : K.lookup N = some ⟨c, d, .dict es ep, sl⟩) (sk : strKeysB es = true) (kp : PySem.W.keepIn K (.ref C) = true)
    (i : PySem.W.nsIn K N "__init__" = some (some (.ref f))) (lf : K.lookup f = some ⟨oc, od, .func (PySem.W.fnOf "__init__" "TableFault.__init__" (defArgs sFltInit) (defBody sFltInit) (defScope sFltInit) .none kV doc pm an cdv ct), osl⟩) (ec : oc = .type "function") (cf : PySem.W.codeIn K cdv "TableFault.__init__" = true) (kf : PySem.W.keepIn K (.ref f) = true)
    (i1 : PySem.W.nsIn K N "__setattr__" = some none) (i2 : PySem.W.nsIn K N "line" = some none) (i3 : PySem.W.nsIn K N "__getattribute__" = some none) (i4 : PySem.W.nsIn K N "__getattr__" = some none) (en : nm = "TableFault") : FltK K := by
  have F := fun_mk (st := sFltInit) lf cf kf
  refine ⟨C, _, a, xcls_mk l n sk kp, ⟨⟨f, _, "TableFault.__init__", sFltInit, _, _, _, _, ns_find n i, isFn_obj lf ec, F, scFlt, F.binds (ps := ["self", "line"]) fun _ _ _ _ _ _ => len2 fun _ _ => rfl, rfl, rfl, rfl, by decide, fun env => rfl⟩, ns_find n i1, ns_find n i2, exc_line⟩, ns_find n i3, ns_find n i4, ⟨_, l, congrArg some en⟩⟩
theorem intK_mk {K : PySem.W.Frag} {x : Str} {n : Int} {t : Tok} (h : PySem.W.nsIn K mainGlobals x = some (some (.int n t))) : IntK K x n := ⟨t, h⟩
theorem strK_mk {K : PySem.W.Frag} {x y z : Str} {t : Tok} (h : PySem.W.nsIn K mainGlobals x = some (some (.str z t))) (e : z = y) : StrK K x y := ⟨z, t, h, e⟩
noncomputable def TabK (K : PySem.W.Frag) : Prop := ∃ CT fI fdI, PySem.W.nsIn K mainGlobals "Table" = some (some (.ref CT)) ∧ Cls K CT ∧ NoAttr K CT "columns" ∧ NoAttr K CT "rows" ∧ Mk K CT fI ∧ Fun K "__init__" "Table.__init__" sTabInit fI fdI
theorem tabK_mk {K : PySem.W.Frag} {C f : Addr} {oc : Value} {od an : Option Addr} {osl : Array (Option Value)} {kV doc pm cdv ct : Value} (a : PySem.W.nsIn K mainGlobals "Table" = some (some (.ref C)))
    (i : PySem.W.findIn K (.ref C) "__init__" = some (some (.ref f))) (fn : PySem.W.isFn K (.ref f) = true) (l : K.lookup f = some ⟨oc, od, .func (PySem.W.fnOf "__init__" "Table.__init__" (defArgs sTabInit) (defBody sTabInit) (defScope sTabInit) .none kV doc pm an cdv ct), osl⟩)
    (c : PySem.W.codeIn K cdv "Table.__init__" = true) (k : PySem.W.keepIn K (.ref f) = true) (pg : PySem.W.plainGet K C Str.empty = true) (hd : PySem.W.hasDictIn K C = true) (po : PySem.W.plainOver K C = true)
    (sa : PySem.W.findIn K (.ref C) "__setattr__" = some (some (.builtin "object.__setattr__"))) (mk : PySem.W.makesIn K C = true) (kc : PySem.W.keepIn K (.ref C) = true) (n1 : PySem.W.findIn K (.ref C) "columns" = some none) (n2 : PySem.W.findIn K (.ref C) "rows" = some none) : TabK K :=
  ⟨C, f, _, a, ⟨pg, hd, po, sa⟩, n1, n2, ⟨mk, i, fn, kc⟩, fun_mk l c k⟩
theorem bs_text {l : List Int} (h : l.all (PySem.W.Codec.inInt 0 255) = true) : bs (WrTabsNeutral.text l) = l.map V.int := by
  unfold bs WrTabsNeutral.text
  rw [List.map_map]
  refine List.map_congr_left fun i hi => ?_
  have q := List.all_eq_true.mp h i hi
  have q2 : 0 ≤ i ∧ i ≤ 255 := by
    unfold PySem.W.Codec.inInt at q
    simpa using q
  show V.int ((UInt8.ofNat i.toNat).toNat : Int) = V.int i
  have e : (UInt8.ofNat i.toNat).toNat = i.toNat := by
    rw [UInt8.toNat_ofNat']
    exact Nat.mod_eq_of_lt (by omega)
  rw [e]
  congr 1
  omega
end TbP
open PySem PySem.W in
theorem L2.walk_part {r : OpenSpec} {k : Nat} {q : Program} {loose : List Str} {XP : (Str → Option Value) → Heap → Prop} {YP : World → Heap → Prop} {d : DefRec} {K : Params → PySem.W.Frag} {CX : World → CXT} {ps : List Str} (sp : PySem.W.Frag → Sp)
    (hwell : r.wellSaid = true) (hdf : d.params.defaults = []) (hlen : r.args.length = ps.length) (hr : Room k callerA) (hY : ∀ (w : World) (h : Heap), YP w h → (K w.params).In h)
    (F : ∀ (w : World) (mg : Str → Option Value) (fa : Addr) (h : Heap), YP w h → (K w.params).In h → h.Ns mainGlobals mg → mg d.name = some (.ref fa) →
      ∃ fd : FuncData, (∀ (s : Shared) (us : List Value), us.length = ps.length → BindsTo s fd ⟨us, []⟩ (ps.zip us)) ∧
        ∀ base : Heap, (K w.params).In base → base.Ns mainGlobals mg → FnOk r.prog w (K w.params) mg base (CX w) k fa fd ps (sp (K w.params)))
    (hsp : ∀ (K : PySem.W.Frag) (H : Hp) (xs : List V) (a : Codec.denoteAll r.args), OnlyF H → Codec.withinAll r.args a = true → Codec.app r.args r.asked a = true → DwAll K H xs (Codec.encAll r.args a) →
      sp K xs H (fun v H' => Dw K H' v (r.ret.enc (Codec.app r.args r.f a))) fun _ _ _ => False)
    (hCX : ∀ (w : World) (H : Hp) (s : Shared) (e : Value) (s' : Shared), CX w [] H s (fun _ _ _ => False) e s' → False) : PySem.W.WalkOS q loose XP YP r d [] (fun f vs => PySem.call f vs) :=
  L2.walk_spec (K := K) (CX := CX) (sp := fun w => sp (K w.params)) hwell hdf hlen hr hY F (fun w H xs a h1 h2 h3 h4 => hsp (K w.params) H xs a h1 h2 h3 h4) hCX

namespace TbP
open PySem PySem.Spec PyProof.Rows L2
theorem all_mk {P : Program} {w : World} {K : PySem.W.Frag} {h : Heap} {mg : Str → Option Value} {fa : Addr} (X : K.In h) (G : h.Ns mainGlobals mg) (hfa : mg "read" = some (.ref fa)) (TK : TxtK K) (LK : LnrK K "LineNotRight") (GK : LnrK K "TooLong") (FK : FltK K) (BK : TabK K)
    (W1 : WdK K "TAKEN_WORDS" (WrTabs.KEYS.map strOf)) (W2 : WdK K "SORTS" ["whole", "fraction", "text", "truth"])
    (f17 : FnF K "cut_at" sCut) (f18 : FnF K "is_digit" sDig) (f19 : FnF K "is_letter" sLet) (f20 : FnF K "word_sign" sSign) (f21 : FnF K "word_of" sWord) (f27 : FnF K "read_size" sSize) (f28 : FnF K "read_whole" sWhole) (f29 : FnF K "greatest_divisor" sGcd) (f30 : FnF K "read_fraction" sFrac)
    (f31 : FnF K "plain_byte" sPlain) (f32 : FnF K "escaped_byte" sEsc) (f33 : FnF K "unescape" sUnesc) (f34 : FnF K "read_text" sText) (f35 : FnF K "read_truth" sTruth) (f36 : FnF K "read_cell" sCell) (f42 : FnF K "read_name" sName) (f43 : FnF K "read_sort" sSort) (f44 : FnF K "read_column" sCol)
    (f45 : FnF K "read_columns" sCols) (f50 : FnF K "cut_cells" sCells) (f51 : FnF K "read_row" sRow) (f52 : FnF K "read_line" sLine) (f53 : FnF K "read_table" sTable) (f58 : FnF K "check_length" sChk) (f60 : FnF K "read" sRead) :
    ∃ fd : FuncData, (∀ (s : Shared) (us : List Value), us.length = (["text"] : List Str).length → BindsTo s fd ⟨us, []⟩ ((["text"] : List Str).zip us)) ∧ ∀ base : Heap, K.In base → base.Ns mainGlobals mg → FnOk P w K mg base (CXE P w) 9 fa fd ["text"] (spRead K) := by
  obtain ⟨f, fd, a60, F60, k60⟩ := f60.ex
  have e := hfa.symm.trans (PySem.W.mg_of X G a60)
  cases e
  have T := TK.mg X G
  obtain ⟨CL, mL, al, xl, il, _⟩ := LK
  obtain ⟨CG, mG, ag, xg, ig, ng⟩ := GK
  have LG : Ex0 K mg "TooLong" CG mG := ⟨xg, ig, PySem.W.mg_of X G ag⟩
  have L : Lnr K mg CL mL := ⟨xl, il, PySem.W.mg_of X G al⟩
  obtain ⟨CF, mF, af, xf, xi, g1, g2, nf⟩ := FK
  have FF : Flt K mg CF mF := ⟨xf, xi, PySem.W.mg_of X G af, g1, g2⟩
  obtain ⟨CT, fI, fdI, at_, cl, n1, n2, mk, FI⟩ := BK
  have TC : TabC K mg CT := ⟨cl, n1, n2⟩
  have Wd : Wds K mg := ⟨by
    have := W1.mg (by decide +kernel) X G
    rw [List.map_map] at this
    exact this, W2.mg (by decide) X G⟩
  have bI := FI.binds (ps := ["self", "columns", "rows"]) fun _ _ _ _ _ _ => len3 fun _ _ _ => rfl
  refine ⟨fd, ?_, fun base _ _ => ?_⟩
  · obtain ⟨oc, od, kV, doc, pm, an, cdv, ct, osl, rfl, lk, hcd⟩ := F60.ex
    exact fun s => len1 fun _ => .of_eq rfl
  have G17 : Fn P w K mg base "cut_at" 1 ["row", "mark"] (spCut K) := fn_mk X G f17 (fun _ _ _ _ _ _ => len2 fun _ _ => rfl) fun f fd F => ok_cut F
  have G18 : Fn P w K mg base "is_digit" 1 ["byte"] spDig := fn_mk X G f18 (fun _ _ _ _ _ _ => len1 fun _ => rfl) fun f fd F => ok_dig F T
  have G19 : Fn P w K mg base "is_letter" 1 ["byte"] spLet := fn_mk X G f19 (fun _ _ _ _ _ _ => len1 fun _ => rfl) fun f fd F => ok_let F T
  have G20 : Fn P w K mg base "word_sign" 2 ["byte"] (spSign CL) := fn_mk X G f20 (fun _ _ _ _ _ _ => len1 fun _ => rfl) fun f fd F => ok_sign F T L G19 G18
  have G21 : Fn P w K mg base "word_of" 3 ["row"] (spWord K CL) := fn_mk X G f21 (fun _ _ _ _ _ _ => len1 fun _ => rfl) fun f fd F => ok_word F G20
  have G27 : Fn P w K mg base "read_size" 2 ["row"] (spSize K CL) := fn_mk X G f27 (fun _ _ _ _ _ _ => len1 fun _ => rfl) fun f fd F => ok_size F T L G18
  have G28 : Fn P w K mg base "read_whole" 3 ["row"] (spWhole K CL) := fn_mk X G f28 (fun _ _ _ _ _ _ => len1 fun _ => rfl) fun f fd F => ok_whole F T L G27
  have G29 : Fn P w K mg base "greatest_divisor" 1 ["one", "other"] spGcd := fn_mk X G f29 (fun _ _ _ _ _ _ => len2 fun _ _ => rfl) fun f fd F => ok_gcd F
  have G30 : Fn P w K mg base "read_fraction" 4 ["row"] (spAny K CL Tb.readFraction fracAt) := fn_mk X G f30 (fun _ _ _ _ _ _ => len1 fun _ => rfl) fun f fd F => ok_frac F T L G17 G27 G28 G29
  have G31 : Fn P w K mg base "plain_byte" 1 ["byte"] (spByte CL okPlain) := fn_mk X G f31 (fun _ _ _ _ _ _ => len1 fun _ => rfl) fun f fd F => ok_plain F T L
  have G32 : Fn P w K mg base "escaped_byte" 1 ["byte"] (spByte CL okEsc) := fn_mk X G f32 (fun _ _ _ _ _ _ => len1 fun _ => rfl) fun f fd F => ok_esc F T L
  have G33 : Fn P w K mg base "unescape" 2 ["row"] (spUnesc K CL) := fn_mk X G f33 (fun _ _ _ _ _ _ => len1 fun _ => rfl) fun f fd F => ok_unesc F T L G32 G31
  have G34 : Fn P w K mg base "read_text" 3 ["row"] (spAny K CL Tb.readText textAt) := fn_mk X G f34 (fun _ _ _ _ _ _ => len1 fun _ => rfl) fun f fd F => ok_text F T L G33
  have G35 : Fn P w K mg base "read_truth" 4 ["row"] (spAny K CL Tb.readTruth truthAt) := fn_mk X G f35 (fun _ _ _ _ _ _ => len1 fun _ => rfl) fun f fd F => ok_truth F L G21
  have G36 : Fn P w K mg base "read_cell" 5 ["row", "sort"] (spCell K CL) := fn_mk X G f36 (fun _ _ _ _ _ _ => len2 fun _ _ => rfl) fun f fd F => ok_cell F T G28 G30 G34 G35
  have G42 : Fn P w K mg base "read_name" 4 ["row"] (spName K CL) := fn_mk X G f42 (fun _ _ _ _ _ _ => len1 fun _ => rfl) fun f fd F => ok_name F T Wd L G19 G21
  have G43 : Fn P w K mg base "read_sort" 4 ["row"] (spSort K CL) := fn_mk X G f43 (fun _ _ _ _ _ _ => len1 fun _ => rfl) fun f fd F => ok_sort F Wd L G21
  have G44 : Fn P w K mg base "read_column" 5 ["row"] (spCol K CL) := fn_mk X G f44 (fun _ _ _ _ _ _ => len1 fun _ => rfl) fun f fd F => ok_col F T L G17 G42 G43
  have G45 : Fn P w K mg base "read_columns" 6 ["line"] (spCols K CL) := fn_mk X G f45 (fun _ _ _ _ _ _ => len1 fun _ => rfl) fun f fd F => ok_cols F T L G17 G44
  have G50 : Fn P w K mg base "cut_cells" 1 ["line"] (spCells K) := fn_mk X G f50 (fun _ _ _ _ _ _ => len1 fun _ => rfl) fun f fd F => ok_cells F T
  have G51 : Fn P w K mg base "read_row" 6 ["line", "columns"] (spRow K CL) := fn_mk X G f51 (fun _ _ _ _ _ _ => len2 fun _ _ => rfl) fun f fd F => ok_row F T L G50 G36
  have G52 : Fn P w K mg base "read_line" 7 ["table", "number", "line"] (spLine K CL CT) := fn_mk X G f52 (fun _ _ _ _ _ _ => len3 fun _ _ _ => rfl) fun f fd F => ok_line F T L TC G45 G51
  have G53 : Fn P w K mg base "read_table" 8 ["text"] (spTable K CT CF) := fn_mk X G f53 (fun _ _ _ _ _ _ => len1 fun _ => rfl) fun f fd F => ok_table F T L FF TC (PySem.W.mg_of X G at_) mk bI (ok_tab FI TC) G17 G52
  have G58 : Fn P w K mg base "check_length" 1 ["text"] (spChk K CG) := fn_mk X G f58 (fun _ _ _ _ _ _ => len1 fun _ => rfl) fun f fd F => ok_chk F T LG
  exact ok_read F60 T FF LG (nf.ne ng (by decide +kernel)) TC G58 G53
theorem ans_read (l : List Int) : PyWrtabs.read l = Tb.readAns (WrTabsNeutral.text l) := by
  rw [← Tb.ans_eq]
  rfl
end TbP

open PySem PySem.W PyProof.Rows
set_option maxRecDepth 100000 in
set_option maxHeartbeats 0 in
theorem PySem.Challenge.cw_tablesteps_s01_read_holds : PySem.Challenge.rw_tablesteps_s01_read.Holds := by
  w_on; k_headS; (case hw => exact ⟨[.list []], by decide +kernel, by decide +kernel⟩)
  k_fillS
  refine L2.walk_part (r := PySem.Challenge.rw_tablesteps_s01_read) (k := 9) (CX := fun w => L2.CXE PySem.Challenge.rw_tablesteps_s01_read.prog w) (ps := ["text"]) TbP.spRead (by decide +kernel) rfl rfl ⟨rfl, by decide, by decide⟩ (fun w h Y => PySem.W.kIn_of Y) ?F ?S ?E
  case E =>
    intro w H s e s' h
    obtain ⟨_, _, _, _, _, _, _, _, _, _, _, _, _, _, q⟩ := h
    exact q
  case S =>
    intro K H xs a hO hwi hask hx
    cases hx with
    | cons h1 h2 =>
      cases h2
      cases h1 with
      | lst hs ha =>
        have e := L2.ints_dw a.1 _ ha
        subst e
        have q : ((Codec.inLen 0 66000 a.1 && a.1.all (Codec.inInt 0 255)) && true) = true := hwi
        rw [Bool.and_eq_true, Bool.and_eq_true] at q
        have eb := TbP.bs_text q.1.2
        have er := TbP.ans_read a.1
        refine ⟨_, WrTabsNeutral.text a.1, rfl, (by rw [eb]; exact hs), fun l H' s' hl => ?_⟩
        show L2.Dw _ H' (.ref l) (.list ((PyWrtabs.read a.1).map fun i => .int i))
        rw [er]
        exact .lst (L2.SqL.of hl) (L2.dw_ints _)
  case F =>
    intro w mg fa h Y KX G hmg
    refine' TbP.all_mk KX G hmg ?TK ?LK ?GK ?FK ?BK ?W1 ?W2 ?f17 ?f18 ?f19 ?f20 ?f21 ?f27 ?f28 ?f29 ?f30 ?f31 ?f32 ?f33 ?f34 ?f35 ?f36 ?f42 ?f43 ?f44 ?f45 ?f50 ?f51 ?f52 ?f53 ?f58 ?f60
    case TK =>
      constructor
      all_goals first | (apply TbP.intK_mk; k_is) | (apply TbP.strK_mk; k_is; decide +kernel) | k_is
    case LK =>
      refine' TbP.lnrK_mk ?na ?nl ?nn ?nsk ?nkp ?ni ?nen
      (case na => k_is); (case nl => k_is); (case nn => k_is); (case nsk => rfl); (case nkp => k_is); (case ni => k_is); (case nen => rfl)
    case GK =>
      refine' TbP.lnrK_mk ?ga ?gl ?gn ?gsk ?gkp ?gi ?gen
      (case ga => k_is); (case gl => k_is); (case gn => k_is); (case gsk => rfl); (case gkp => k_is); (case gi => k_is); (case gen => rfl)
    case FK =>
      refine' TbP.fltK_mk ?fa ?fl ?fn ?fsk ?fkp ?fi ?flf ?fec ?fcf ?fkf ?fi1 ?fi2 ?fi3 ?fi4 ?fen
      (case fa => k_is); (case fl => k_is); (case fn => k_is); (case fsk => rfl); (case fkp => k_is); (case fi => k_is); (case flf => k_is); (case fec => rfl); (case fcf => k_is); (case fkf => k_is)
      (case fi1 => k_is); (case fi2 => k_is); (case fi3 => k_is); (case fi4 => k_is); (case fen => rfl)
    case BK =>
      refine' TbP.tabK_mk ?ba ?bi ?bfn ?bl ?bc ?bk ?bpg ?bhd ?bpo ?bsa ?bmk ?bkc ?bn1 ?bn2
      (case ba => k_is); (case bi => k_is); (case bfn => k_is); (case bl => k_is); (case bc => k_is); (case bk => k_is); (case bpg => k_is); (case bhd => k_is); (case bpo => k_is); (case bsa => k_is); (case bmk => k_is); (case bkc => k_is); (case bn1 => k_is); (case bn2 => k_is)
    case W1 => apply TbP.wdK_mk; k_is; k_is; decide +kernel
    case W2 => apply TbP.wdK_mk; k_is; k_is; decide +kernel
    all_goals (apply TbP.fnF_mk; k_is; k_is; k_is; k_is)

